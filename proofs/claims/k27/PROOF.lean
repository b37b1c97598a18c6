import PyProof.Rows.All
import Wide.All
import OpenK.AllK
import Wide.FinOn
import HandS.ForMost
import HandS.Exc
import HandS.TryOnly
import HandS.ExcOwn
import HandS.WordsExc
import HandS.ExcCtx
import HandS.IsInst
import HandS.Walk
import HandS.Lambda
import HandS.TupAny
import HandS.StrMore
import HandS.EndTab
import KE.SortData
import KE.SortKeyHeap
import HandS.More
import HandS.HeadHook3
import HandS.ExcInit
import HandS.ExcField
import HandS.ExcIs
import HandS.HotCalls
import HandS.Text
import KE.KExcIs
import HandS.FStr
import HandS.ListItems
import HandS.WordsDict
import HandS.SetKeys
import HandS.Conv
import HandS.DictTup
import HandS.Deep
import KE.KDictList
import HandS.DictComp
import PyProof.DictUpdate
import HandS.SortKw
import HandS.Iter
import HandS.Replace
import HandS.Remove
import HandS.NoneIn
import HandS.SetFor
import HandS.TryMany
import HandS.ReplaceLit
import HandS.Strs
import PyProof.NeKinds
import HandS.Flow
import KE.DataMinMax
import HandS.Gcd
import PySem.Challenge.RW_truemill_k27_make_graph
set_option Elab.async false
set_option linter.all false
set_option autoImplicit false
set_option maxRecDepth 100000
set_option maxHeartbeats 2000000
namespace Vi
open PySem PySem.Spec PyProof.Rows L2

/-! ### data, cells, results -/
inductive D where
  | non | bl (b : Bool) | int (i : Int) | str (x : Str) | lst (xs : List D) | klst (xs : List D) | tup (xs : List D) | ref (i : Nat) | ty (n : String)
  deriving Inhabited
inductive Cel where
  | lst (xs : List D) | dct (kvs : List (Key × D)) | ins (c : Str) (fs : List (Str × D)) | lok (kvs : List (Key × D))
  deriving Inhabited
abbrev Hap := List Cel
abbrev Env := List (Option D)
inductive Rs (α : Type) where
  | ok (a : α) (h : Hap) | err (c : Str) (fs : Option (List (Str × D))) (h : Hap) | stuck
inductive RS where
  | nx (e : Env) (h : Hap) | rt (d : D) (h : Hap) | bk (e : Env) (h : Hap) | ct (e : Env) (h : Hap) | er (c : Str) (fs : Option (List (Str × D))) (e : Env) (h : Hap) | stuck
abbrev ME := Env → Hap → Rs D
abbrev MA := Env → Hap → Rs (List D)
abbrev MT := Env → Hap → Rs Bool
abbrev MS := Env → Hap → RS
abbrev MF := List D → Hap → Rs D
@[reducible] def Rs.bind {α β : Type} (r : Rs α) (f : α → Hap → Rs β) : Rs β := match r with
  | .ok a h => f a h
  | .err c fs h => .err c fs h
  | .stuck => .stuck
def ofO {α : Type} (o : Option α) (h : Hap) : Rs α := match o with
  | some d => .ok d h
  | none => .stuck

/-! ### tables of code objects: what a def has made of its lambdas -/
class Tbl where
  T : List (Addr × Str)
structure TabOk (F H : Hp) (P : Addr) (q : Str) : Prop where
  f : F P = none
  t : ∃ ps : Array Value, H P = some (.tbl ps) ∧ PySem.TriplesOk ps.toList ∧ ∀ (pos : Pos) (cv : Value), PySem.codeAmong pos ps.toList = some cv → ∃ c, cv = .ref c ∧ F c = some (LamX.CodeO c q)
def NT (o : HO) : Prop := ∀ ps, o ≠ .tbl ps
theorem TabOk.ne {F H : Hp} {P p : Addr} {q : Str} (t : TabOk F H P q) (h : ∀ o, H p = some o → NT o) : P ≠ p := fun e => by
  obtain ⟨ps, e1, _⟩ := t.t
  rw [e] at e1
  exact h _ e1 ps rfl
theorem TabOk.up {F F' H H' : Hp} {P : Addr} {q : Str} (t : TabOk F H P q) (f0 : F' P = F P) (fm : ∀ a o, F a = some o → F' a = some o) (h0 : H' P = H P) : TabOk F' H' P q := by
  obtain ⟨ps, e1, e2, e3⟩ := t.t
  refine ⟨by rw [f0]; exact t.f, ps, by rw [h0]; exact e1, e2, fun pos cv e => ?_⟩
  obtain ⟨c, e4, e5⟩ := e3 pos cv e
  exact ⟨c, e4, fm _ _ e5⟩
/-! ### how they stand in the heap -/
structure Wd where
  F : Hp
  ρ : List Addr
section
variable (K : PySem.W.Frag)
mutual
inductive VR (w : Wd) : V → D → Prop
  | non : VR w .non .non
  | bl (b : Bool) : VR w (.bl b) (.bl b)
  | int (i : Int) : VR w (.int i) (.int i)
  | str (x : Str) : VR w (.str x) (.str x)
  | ty (n : String) : VR w (.ty n) (.ty n)
  | lst {a : Addr} {vs : List V} {ds : List D} : w.F a = some (.lst vs) → VRs w vs ds → VR w (.ref a) (.lst ds)
  | klst {a : Addr} {vs : List V} {ds : List D} : SqL K w.F a vs → VRs w vs ds → VR w (.ref a) (.klst ds)
  | tup {a : Addr} {vs : List V} {ds : List D} : SqT K w.F a vs → VRs w vs ds → VR w (.ref a) (.tup ds)
  | ref {a : Addr} {i : Nat} : w.ρ[i]? = some a → VR w (.ref a) (.ref i)
inductive VRs (w : Wd) : List V → List D → Prop
  | nil : VRs w [] []
  | cons {v : V} {vs : List V} {d : D} {ds : List D} : VR w v d → VRs w vs ds → VRs w (v :: vs) (d :: ds)
end
def CRel (w : Wd) : HO → Cel → Prop
  | .lst vs, .lst ds => VRs K w vs ds
  | .dK kvs, .dct kds => kvs.map Prod.fst = kds.map Prod.fst ∧ VRs K w (kvs.map Prod.snd) (kds.map Prod.snd)
  | .ins C _ fs, .ins c fds => PySem.W.nsIn K PySem.mainGlobals c = some (some (.ref C)) ∧ fs.map Prod.fst = fds.map Prod.fst ∧ VRs K w (fs.map Prod.snd) (fds.map Prod.snd)
  | _, _ => False
/-- how a cell stands: a locked dict (one that is being walked) is frozen, any other cell is not -/
def CelOk (w : Wd) (H : Hp) (a : Addr) (c : Cel) : Prop := match c with
  | .lok kds => ∃ (od : Obj) (kvs : List (Key × V)), w.F a = some (.frz od (.dK kvs)) ∧ kvs.map Prod.fst = kds.map Prod.fst ∧ VRs K w (kvs.map Prod.snd) (kds.map Prod.snd)
  | c => w.F a = none ∧ ∃ o, H a = some o ∧ CRel K w o c
structure Ok [Tbl] (w : Wd) (H : Hp) (h : Hap) : Prop where
  sub : ∀ a o, w.F a = some o → H a = some o
  len : w.ρ.length = h.length
  cel : ∀ (i : Nat) (a : Addr) (c : Cel), w.ρ[i]? = some a → h[i]? = some c → CelOk K w H a c
  nd : w.ρ.Nodup
  tab : ∀ p ∈ Tbl.T, TabOk w.F H p.1 p.2
structure EnvR (w : Wd) (σ : L2.St) (env : Env) : Prop where
  len : σ.length = env.length
  get : ∀ (i : Nat) (d : D), env[i]? = some (some d) → ∃ v, σ[i]? = some (some v) ∧ VR K w v d
/-- the fields of an error's own dict -/
def XR (w : Wd) (H : Hp) (d : Option Addr) (fs : Option (List (Str × D))) : Prop := match d, fs with
  | none, none => True
  | some dd, some fds => ∃ fs', H dd = some (.xd fs') ∧ dd ∉ w.ρ ∧ fs'.map Prod.fst = fds.map Prod.fst ∧ VRs K w (fs'.map Prod.snd) (fds.map Prod.snd)
  | _, _ => False
end
structure Step (w : Wd) (H : Hp) (w' : Wd) (H' : Hp) : Prop where
  f : ∀ a o, w.F a = some o → w'.F a = some o
  r : ∃ t, w'.ρ = w.ρ ++ t
  keep : ∀ a o, a ∉ w.ρ → NT o → H a = some o → H' a = some o
  dom : ∀ a, H a ≠ none → H' a ≠ none
  new : ∀ a, a ∈ w'.ρ → a ∈ w.ρ ∨ H a = none
  nf : ∀ a o, w'.F a = some o → w.F a = some o ∨ H a = none

section
variable {K : PySem.W.Frag} {w w' w1 w2 : Wd} {H H' H1 H2 : Hp} {h h' : Hap} {σ : L2.St} {env : Env}
theorem Step.refl (w : Wd) (H : Hp) : Step w H w H := ⟨fun _ _ e => e, ⟨[], by simp⟩, fun _ _ _ _ e => e, fun _ e => e, fun _ m => .inl m, fun _ _ e => .inl e⟩
theorem Step.trans (s : Step w H w1 H1) (t : Step w1 H1 w2 H2) : Step w H w2 H2 := by
  refine ⟨fun a o e => t.f a o (s.f a o e), ?_, fun a o n nt e => ?_, fun a e => t.dom a (s.dom a e), fun a m => ?_, fun a o e => ?_⟩
  · obtain ⟨x, e1⟩ := s.r
    obtain ⟨y, e2⟩ := t.r
    exact ⟨x ++ y, by rw [e2, e1, List.append_assoc]⟩
  · have q := s.keep a o n nt e
    refine t.keep a o (fun m => ?_) nt q
    rcases s.new a m with z | z
    · exact n z
    · rw [e] at z; cases z
  · rcases t.new a m with z | z
    · exact s.new a z
    · right
      cases q : H a with
      | none => rfl
      | some o => exact absurd z (s.dom a (by rw [q]; exact fun z => nomatch z))
  · rcases t.nf a o e with z | z
    · exact s.nf a o z
    · right
      cases q : H a with
      | none => rfl
      | some o => exact absurd z (s.dom a (by rw [q]; exact fun z => nomatch z))
theorem Rd.monoF {F F' : Hp} (f : ∀ a o, F a = some o → F' a = some o) {a : Addr} {u : HO} (r : Rd F a u) : Rd F' a u := by
  rcases r with r | ⟨o, r⟩
  · exact .inl (f _ _ r)
  · exact .inr ⟨o, f _ _ r⟩
theorem sqL_mono {F F' : Hp} (f : ∀ a o, F a = some o → F' a = some o) {a : Addr} {xs : List V} (r : SqL K F a xs) : SqL K F' a xs := by
  rcases r with r | r
  · exact .inl (Rd.monoF f r)
  · exact .inr r
theorem sqT_mono {F F' : Hp} (f : ∀ a o, F a = some o → F' a = some o) {a : Addr} {xs : List V} (r : SqT K F a xs) : SqT K F' a xs := by
  rcases r with r | r
  · exact .inl (Rd.monoF f r)
  · exact .inr r
mutual
theorem VR.mono' (f : ∀ a o, w.F a = some o → w'.F a = some o) (r : ∀ (i : Nat) (a : Addr), w.ρ[i]? = some a → w'.ρ[i]? = some a) : ∀ {v : V} {d : D}, VR K w v d → VR K w' v d
  | _, _, .non => .non
  | _, _, .bl b => .bl b
  | _, _, .int i => .int i
  | _, _, .str x => .str x
  | _, _, .ty n => .ty n
  | _, _, .lst e t => .lst (f _ _ e) (VRs.mono' f r t)
  | _, _, .klst e t => .klst (sqL_mono f e) (VRs.mono' f r t)
  | _, _, .tup e t => .tup (sqT_mono f e) (VRs.mono' f r t)
  | _, _, .ref e => .ref (r _ _ e)
theorem VRs.mono' (f : ∀ a o, w.F a = some o → w'.F a = some o) (r : ∀ (i : Nat) (a : Addr), w.ρ[i]? = some a → w'.ρ[i]? = some a) : ∀ {v : List V} {d : List D}, VRs K w v d → VRs K w' v d
  | _, _, .nil => .nil
  | _, _, .cons a b => .cons (VR.mono' f r a) (VRs.mono' f r b)
end
theorem Step.ix (s : Step w H w' H') {i : Nat} {a : Addr} (e : w.ρ[i]? = some a) : w'.ρ[i]? = some a := by
  obtain ⟨t, q⟩ := s.r
  rw [q]
  have hi : i < w.ρ.length := (List.getElem?_eq_some_iff.mp e).1
  rw [List.getElem?_append_left hi]
  exact e
theorem VR.mono (s : Step w H w' H') {v : V} {d : D} (r : VR K w v d) : VR K w' v d := r.mono' s.f fun _ _ e => s.ix e
theorem VRs.mono (s : Step w H w' H') {v : List V} {d : List D} (r : VRs K w v d) : VRs K w' v d := r.mono' s.f fun _ _ e => s.ix e
theorem EnvR.mono (s : Step w H w' H') (r : EnvR K w σ env) : EnvR K w' σ env := ⟨r.len, fun i d e => by
  obtain ⟨v, e1, e2⟩ := r.get i d e
  exact ⟨v, e1, e2.mono s⟩⟩
theorem CRel.mono' {w w' : Wd} (f : ∀ a o, w.F a = some o → w'.F a = some o) (r : ∀ (i : Nat) (a : Addr), w.ρ[i]? = some a → w'.ρ[i]? = some a) {o : HO} {c : Cel} (x : CRel K w o c) : CRel K w' o c := by
  cases o <;> cases c <;> first
    | exact VRs.mono' f r x
    | exact ⟨x.1, VRs.mono' f r x.2⟩
    | exact ⟨x.1, x.2.1, VRs.mono' f r x.2.2⟩
    | exact x
theorem CRel.nt {w : Wd} {o : HO} {c : Cel} (x : CRel K w o c) : NT o := fun ps e => by
  subst e
  cases c <;> exact x
theorem VRs.length : ∀ {v : List V} {d : List D}, VRs K w v d → v.length = d.length
  | _, _, .nil => rfl
  | _, _, .cons _ b => by rw [List.length_cons, List.length_cons, VRs.length b]
theorem VRs.append : ∀ {v v' : List V} {d d' : List D}, VRs K w v d → VRs K w v' d' → VRs K w (v ++ v') (d ++ d')
  | _, _, _, _, .nil, t => t
  | _, _, _, _, .cons a b, t => .cons a (VRs.append b t)
theorem VRs.get : ∀ {v : List V} {d : List D} {i : Nat} {x : V}, VRs K w v d → v[i]? = some x → ∃ y, d[i]? = some y ∧ VR K w x y
  | _, _, i, _, .nil, e => by simp at e
  | _, _, 0, _, .cons a b, e => by
    simp at e
    subst e
    exact ⟨_, rfl, a⟩
  | _, _, i + 1, x, .cons a b, e => by
    obtain ⟨u, h1, h2⟩ := VRs.get (i := i) (x := x) b (by simpa using e)
    exact ⟨u, by simpa using h1, h2⟩
theorem VRs.get' : ∀ {v : List V} {d : List D} {i : Nat} {y : D}, VRs K w v d → d[i]? = some y → ∃ x, v[i]? = some x ∧ VR K w x y
  | _, _, i, _, .nil, e => by simp at e
  | _, _, 0, _, .cons a b, e => by
    simp at e
    subst e
    exact ⟨_, rfl, a⟩
  | _, _, i + 1, x, .cons a b, e => by
    obtain ⟨u, h1, h2⟩ := VRs.get' (i := i) (y := x) b (by simpa using e)
    exact ⟨u, by simpa using h1, h2⟩
theorem VRs.set {x : V} {y : D} (r : VR K w x y) : ∀ {v : List V} {d : List D} (i : Nat), VRs K w v d → VRs K w (v.set i x) (d.set i y)
  | _, _, _, .nil => .nil
  | _, _, 0, .cons _ t => .cons r t
  | _, _, i + 1, .cons q t => .cons q (VRs.set r i t)
theorem VRs.take : ∀ {v : List V} {d : List D} (n : Nat), VRs K w v d → VRs K w (v.take n) (d.take n)
  | _, _, 0, _ => .nil
  | _, _, _ + 1, .nil => .nil
  | _, _, n + 1, .cons r t => .cons r (VRs.take n t)
theorem VRs.drop : ∀ {v : List V} {d : List D} (n : Nat), VRs K w v d → VRs K w (v.drop n) (d.drop n)
  | _, _, 0, r => r
  | _, _, _ + 1, .nil => .nil
  | _, _, n + 1, .cons _ t => VRs.drop n t
theorem VRs.strs : ∀ {v : List V} {xs : List Str}, VRs K w v (xs.map D.str) → v = xs.map V.str
  | _, [], .nil => rfl
  | _, _ :: _, .cons (.str _) t => by rw [VRs.strs t]; rfl
theorem VRs.of_ints : ∀ {xs : List Int}, VRs K w (xs.map V.int) (xs.map D.int)
  | [] => .nil
  | x :: _ => .cons (.int x) VRs.of_ints

theorem CelOk.of {a : Addr} {o : HO} {c : Cel} (f : w.F a = none) (e : H a = some o) (r : CRel K w o c) : CelOk K w H a c := by
  cases c with
  | lok kds => cases o <;> exact r.elim
  | lst xs => exact ⟨f, o, e, r⟩
  | dct xs => exact ⟨f, o, e, r⟩
  | ins c xs => exact ⟨f, o, e, r⟩
theorem CelOk.un {a : Addr} {c : Cel} (x : CelOk K w H a c) (hc : ∀ kds, c ≠ .lok kds) : w.F a = none ∧ ∃ o, H a = some o ∧ CRel K w o c := by
  cases c with
  | lok kds => exact absurd rfl (hc kds)
  | lst xs => exact x
  | dct xs => exact x
  | ins c xs => exact x
theorem CelOk.ex [Tbl] (ok : Ok K w H h) {a : Addr} {c : Cel} (x : CelOk K w H a c) : ∃ o, H a = some o ∧ NT o := by
  by_cases hc : ∃ kds, c = .lok kds
  · obtain ⟨kds, rfl⟩ := hc
    obtain ⟨od, kvs, e, _⟩ := x
    exact ⟨_, ok.sub _ _ e, fun _ z => nomatch z⟩
  · obtain ⟨_, o, e, r⟩ := x.un fun kds z => hc ⟨kds, z⟩
    exact ⟨o, e, CRel.nt r⟩
theorem CelOk.up {a : Addr} {c : Cel} (x : CelOk K w H a c) (f : ∀ a o, w.F a = some o → w'.F a = some o) (r : ∀ (i : Nat) (a : Addr), w.ρ[i]? = some a → w'.ρ[i]? = some a) (f0 : w.F a = none → w'.F a = none) (h0 : H' a = H a) : CelOk K w' H' a c := by
  by_cases hc : ∃ kds, c = .lok kds
  · obtain ⟨kds, rfl⟩ := hc
    obtain ⟨od, kvs, e, e2, e3⟩ := x
    exact ⟨od, kvs, f _ _ e, e2, VRs.mono' f r e3⟩
  · obtain ⟨z, o, e, q⟩ := x.un fun kds z => hc ⟨kds, z⟩
    exact .of (f0 z) (by rw [h0]; exact e) (CRel.mono' f r q)
/-- a new frozen object -/
theorem Ok.fresh [Tbl] (ok : Ok K w H h) {p : Addr} (hp : H p = none) : w.F p = none ∧ p ∉ w.ρ := by
  constructor
  · cases q : w.F p with
    | none => rfl
    | some o => rw [ok.sub p o q] at hp; cases hp
  · intro m
    obtain ⟨i, hi⟩ := List.getElem?_of_mem m
    have hl : i < w.ρ.length := (List.getElem?_eq_some_iff.mp hi).1
    rw [ok.len] at hl
    obtain ⟨o, e, _⟩ := (ok.cel i p _ hi (List.getElem?_eq_getElem hl)).ex ok
    rw [hp] at e
    cases e
theorem Ok.alloc [Tbl] (ok : Ok K w H h) {p : Addr} {o : HO} (hp : H p = none) : Ok K ⟨upd w.F p o, w.ρ⟩ (upd H p o) h ∧ Step w H ⟨upd w.F p o, w.ρ⟩ (upd H p o) := by
  obtain ⟨f0, r0⟩ := ok.fresh hp
  have fm : ∀ a u, w.F a = some u → upd w.F p o a = some u := fun a u e => by
    rw [upd_ne (ne_of_none e f0)]
    exact e
  refine ⟨⟨fun a u e => ?_, ok.len, fun i a c e1 e2 => ?_, ok.nd, fun x m => ?tab⟩, ⟨fm, ⟨[], by simp⟩, fun a u _ _ e => ?_, fun a e => ?_, fun a m => .inl m, fun a u e => ?_⟩⟩
  case tab =>
    have y := ok.tab x m
    have ne := y.ne (p := p) fun o e => by rw [hp] at e; cases e
    exact y.up (by show upd w.F p o x.1 = _; rw [upd_ne ne]) fm (by rw [upd_ne ne])
  · have e : upd w.F p o a = some u := e
    by_cases q : a = p
    · subst q
      rw [upd_same] at e ⊢
      exact e
    · rw [upd_ne q] at e ⊢
      exact ok.sub a u e
  · have x := ok.cel i a c e1 e2
    obtain ⟨u, e3, _⟩ := x.ex ok
    have ne : a ≠ p := ne_of_none e3 hp
    exact x.up fm (fun _ _ e => e) (fun z => by show upd w.F p o a = none; rw [upd_ne ne]; exact z) (upd_ne ne)
  · rw [upd_ne (ne_of_none e hp)]
    exact e
  · by_cases q : a = p
    · subst q
      exact absurd hp e
    · rw [upd_ne q]
      exact e
  · by_cases q : a = p
    · subst q
      exact .inr hp
    · have e' : upd w.F p o a = some u := e
      rw [upd_ne q] at e'
      exact .inl e'
/-- an object is tracked that was laid ahead of w's steps (a comprehension's list) -/
theorem Ok.freeze [Tbl] (ok : Ok K w H h) {p : Addr} {o : HO} (hp : H p = some o) (nt : NT o) (f0 : w.F p = none) (r0 : p ∉ w.ρ) : Ok K ⟨upd w.F p o, w.ρ⟩ H h := by
  have fm : ∀ a u, w.F a = some u → upd w.F p o a = some u := fun a u e => by
    rw [upd_ne (ne_of_none e f0)]
    exact e
  refine ⟨fun a u e => ?_, ok.len, fun i a c e1 e2 => ?_, ok.nd, fun x m => ?tab⟩
  case tab =>
    have y := ok.tab x m
    have ne := y.ne (p := p) fun o' e => by rw [hp] at e; cases e; exact nt
    exact y.up (by show upd w.F p o x.1 = _; rw [upd_ne ne]) fm rfl
  · by_cases q : a = p
    · subst q
      have e' : upd w.F a o a = some u := e
      rw [upd_same] at e'
      rw [hp]
      exact e'
    · have e' : upd w.F p o a = some u := e
      rw [upd_ne q] at e'
      exact ok.sub a u e'
  · have ne : a ≠ p := fun q => r0 (by rw [← q]; exact List.mem_of_getElem? e1)
    exact (ok.cel i a c e1 e2).up fm (fun _ _ e => e) (fun z => by show upd w.F p o a = none; rw [upd_ne ne]; exact z) rfl
/-- an object that is not tracked changes -/
theorem Ok.put [Tbl] (ok : Ok K w H h) {p : Addr} {o : HO} (nt : ∀ o, H p = some o → NT o) (f0 : w.F p = none) (r0 : p ∉ w.ρ) : Ok K w (upd H p o) h := by
  refine ⟨fun a u e => ?_, ok.len, fun i a c e1 e2 => ?_, ok.nd, fun x m => (ok.tab x m).up rfl (fun _ _ e => e) (upd_ne ((ok.tab x m).ne nt))⟩
  · rw [upd_ne (ne_of_none e f0)]
    exact ok.sub a u e
  · have ne : a ≠ p := fun q => r0 (by rw [← q]; exact List.mem_of_getElem? e1)
    exact (ok.cel i a c e1 e2).up (fun _ _ e => e) (fun _ _ e => e) (fun z => z) (upd_ne ne)
/-- a cell changes -/
theorem Ok.write [Tbl] (ok : Ok K w H h) {i : Nat} {p : Addr} {o : HO} {c : Cel} (hn : ∀ kds, h[i]? ≠ some (.lok kds)) (hi : w.ρ[i]? = some p) (hc : CRel K w o c) : Ok K w (upd H p o) (h.set i c) ∧ Step w H w (upd H p o) := by
  have hl : i < w.ρ.length := (List.getElem?_eq_some_iff.mp hi).1
  have hl' : i < h.length := by rw [← ok.len]; exact hl
  obtain ⟨z0, u0, e0, _⟩ := (ok.cel i p _ hi (List.getElem?_eq_getElem hl')).un fun kds z => hn kds (by rw [List.getElem?_eq_getElem hl', z])
  have pm : p ∈ w.ρ := List.mem_of_getElem? hi
  have ntp : ∀ o, H p = some o → NT o := fun o' e => by
    obtain ⟨u1, e1, r1⟩ := (ok.cel i p _ hi (List.getElem?_eq_getElem hl')).ex ok
    rw [e1] at e
    cases e
    exact r1
  refine ⟨⟨fun a u e => ?_, by rw [List.length_set]; exact ok.len, fun j a c' e1 e2 => ?_, ok.nd, fun x m => (ok.tab x m).up rfl (fun _ _ e => e) (upd_ne ((ok.tab x m).ne ntp))⟩, ⟨fun _ _ e => e, ⟨[], by simp⟩, fun a u n _ e => ?_, fun a e => ?_, fun a m => .inl m, fun a u e => .inl e⟩⟩
  · rw [upd_ne (ne_of_none e z0)]
    exact ok.sub a u e
  · by_cases q : i = j
    · subst q
      rw [hi] at e1
      cases e1
      rw [List.getElem?_set_self hl'] at e2
      cases e2
      exact .of z0 upd_same hc
    · rw [List.getElem?_set_ne q] at e2
      have ne : a ≠ p := fun z => by
        subst z
        exact q ((List.getElem?_inj hl ok.nd).mp (by rw [hi, e1]))
      exact (ok.cel j a c' e1 e2).up (fun _ _ e => e) (fun _ _ e => e) (fun z => z) (upd_ne ne)
  · have ne : a ≠ p := fun z => n (by rw [z]; exact pm)
    rw [upd_ne ne]
    exact e
  · by_cases q : a = p
    · subst q
      rw [upd_same]
      exact fun z => nomatch z
    · rw [upd_ne q]
      exact e
/-- a new cell -/
theorem Ok.cell [Tbl] (ok : Ok K w H h) {p : Addr} {o : HO} {c : Cel} (hp : H p = none) (hc : CRel K w o c) :
    Ok K ⟨w.F, w.ρ ++ [p]⟩ (upd H p o) (h ++ [c]) ∧ Step w H ⟨w.F, w.ρ ++ [p]⟩ (upd H p o) := by
  obtain ⟨f0, r0⟩ := ok.fresh hp
  have rm : ∀ (i : Nat) (a : Addr), w.ρ[i]? = some a → (w.ρ ++ [p])[i]? = some a := fun i a e => by
    rw [List.getElem?_append_left (List.getElem?_eq_some_iff.mp e).1]
    exact e
  refine ⟨⟨fun a u e => ?_, by simp [ok.len], fun j a c' e1 e2 => ?_, ?_, fun x m => (ok.tab x m).up rfl (fun _ _ e => e) (upd_ne ((ok.tab x m).ne fun o e => by rw [hp] at e; cases e))⟩, ⟨fun _ _ e => e, ⟨[p], rfl⟩, fun a u _ _ e => ?_, fun a e => ?_, fun a m => ?_, fun a u e => .inl e⟩⟩
  · rw [upd_ne (ne_of_none e f0)]
    exact ok.sub a u e
  · by_cases q : j < w.ρ.length
    · have e1' : (w.ρ ++ [p])[j]? = some a := e1
      rw [List.getElem?_append_left q] at e1'
      rw [List.getElem?_append_left (by rw [← ok.len]; exact q)] at e2
      have x := ok.cel j a c' e1' e2
      obtain ⟨u, e3, _⟩ := x.ex ok
      exact x.up (w' := ⟨w.F, w.ρ ++ [p]⟩) (fun _ _ e => e) rm (fun z => z) (upd_ne (ne_of_none e3 hp))
    · have e1' : (w.ρ ++ [p])[j]? = some a := e1
      have hj : j < (w.ρ ++ [p]).length := (List.getElem?_eq_some_iff.mp e1').1
      rw [List.length_append, List.length_singleton] at hj
      have ej : j = w.ρ.length := by omega
      subst ej
      rw [List.getElem?_append_right (Nat.le_refl _), Nat.sub_self] at e1'
      rw [ok.len, List.getElem?_append_right (Nat.le_refl _), Nat.sub_self] at e2
      simp at e1' e2
      subst e1' e2
      exact .of f0 upd_same (CRel.mono' (w := w) (w' := ⟨w.F, w.ρ ++ [p]⟩) (fun _ _ e => e) rm hc)
  · show (w.ρ ++ [p]).Nodup
    rw [List.nodup_append]
    exact ⟨ok.nd, by simp, fun a m b m2 => by
      simp at m2
      subst m2
      exact fun z => r0 (by rw [← z]; exact m)⟩
  · rw [upd_ne (ne_of_none e hp)]
    exact e
  · by_cases q : a = p
    · subst q
      exact absurd hp e
    · rw [upd_ne q]
      exact e
  · have m' : a ∈ w.ρ ++ [p] := m
    rw [List.mem_append] at m'
    rcases m' with z | z
    · exact .inl z
    · simp at z
      subst z
      exact .inr hp
end
end Vi

set_option Elab.async false
set_option linter.all false
set_option autoImplicit false
set_option maxRecDepth 100000
set_option maxHeartbeats 2000000
namespace Vi
open PySem PySem.Spec PyProof.Rows L2
variable {gm : Str → Option Value}

/-! ### what a result asks of the wishes -/
def Post [Tbl] {α β : Type} (K : PySem.W.Frag) (gm : Str → Option Value) (VA : Wd → β → α → Prop) (w : Wd) (H : Hp) (r : Rs α) (Q : β → Hp → Prop) (E : XK) : Prop := match r with
  | .ok a h => ∀ v w' H', Step w H w' H' → Ok K w' H' h → VA w' v a → Q v H'
  | .err c fs h => ∀ cv d w' H', gm c = some cv → Step w H w' H' → Ok K w' H' h → XR K w' H' d fs → E cv d H'
  | .stuck => False
def PostS [Tbl] (K : PySem.W.Frag) (gm : Str → Option Value) (w : Wd) (H : Hp) (r : RS) (D : Ends) (W : WX) : Prop := match r with
  | .nx e h => ∀ σ w' H', Step w H w' H' → Ok K w' H' h → EnvR K w' σ e → D.nx σ H'
  | .bk e h => ∀ σ w' H', Step w H w' H' → Ok K w' H' h → EnvR K w' σ e → D.bk σ H'
  | .ct e h => ∀ σ w' H', Step w H w' H' → Ok K w' H' h → EnvR K w' σ e → D.ct σ H'
  | .rt d h => ∀ v w' H', Step w H w' H' → Ok K w' H' h → VR K w' v d → D.rt v H'
  | .er c fs e h => ∀ cv d σ w' H', gm c = some cv → Step w H w' H' → Ok K w' H' h → EnvR K w' σ e → XR K w' H' d fs → W cv d σ H'
  | .stuck => False
def VRb (_ : Wd) (v b : Bool) : Prop := v = b
def tE [Tbl] (K : PySem.W.Frag) (gm : Str → Option Value) (W : WX) (m : ME) : TE := fun σ H Q => ∃ w env h, Ok K w H h ∧ EnvR K w σ env ∧ Post K gm (VR K) w H (m env h) Q fun c d H' => W c d σ H'
def tA [Tbl] (K : PySem.W.Frag) (gm : Str → Option Value) (W : WX) (m : MA) : TA := fun σ H Q => ∃ w env h, Ok K w H h ∧ EnvR K w σ env ∧ Post K gm (VRs K) w H (m env h) Q fun c d H' => W c d σ H'
def tT [Tbl] (K : PySem.W.Frag) (gm : Str → Option Value) (W : WX) (m : MT) : TT := fun σ H Q => ∃ w env h, Ok K w H h ∧ EnvR K w σ env ∧ Post K gm VRb w H (m env h) Q fun c d H' => W c d σ H'
def tS [Tbl] (K : PySem.W.Frag) (gm : Str → Option Value) (W : WX) (m : MS) : TS := fun D σ H => ∃ w env h, Ok K w H h ∧ EnvR K w σ env ∧ PostS K gm w H (m env h) D W

theorem PE.imp {X : Cx} {e : Expr} {t t' : TE} (p : PE X e t) (i : ∀ σ H Q, t' σ H Q → t σ H Q) : PE X e t' := ⟨fun pins s σ H Q I h => p.run pins s σ H Q I (i _ _ _ h)⟩
theorem PT.imp {X : Cx} {e : Expr} {t t' : TT} (p : PT X e t) (i : ∀ σ H Q, t' σ H Q → t σ H Q) : PT X e t' := ⟨fun pins s σ H Q I h => p.run pins s σ H Q I (i _ _ _ h)⟩
theorem PW.imp {X : Cx} {e : Expr} {t t' : TT} (p : PW X e t) (i : ∀ σ H Q, t' σ H Q → t σ H Q) : PW X e t' := ⟨fun whole pins s σ H Q I h => p.run whole pins s σ H Q I (i _ _ _ h)⟩
theorem PA.imp {X : Cx} {e : List Expr} {t t' : TA} (p : PA X e t) (i : ∀ σ H Q, t' σ H Q → t σ H Q) : PA X e t' := ⟨fun pos pins s σ H Q I h => p.run pos pins s σ H Q I (i _ _ _ h)⟩
theorem PS.imp {X : Cx} {e : Stmt} {t t' : TS} (p : PS X e t) (i : ∀ D σ H, t' D σ H → t D σ H) : PS X e t' := ⟨fun pins s σ H D I h => p.run pins s σ H D I (i _ _ _ h)⟩
theorem PSs.imp {X : Cx} {e : List Stmt} {t t' : TS} (p : PSs X e t) (i : ∀ D σ H, t' D σ H → t D σ H) : PSs X e t' := ⟨fun pins s σ H D I h => p.run pins s σ H D I (i _ _ _ h)⟩

section
variable {K : PySem.W.Frag} {w w' : Wd} {H H' : Hp} {h h' : Hap} {σ : L2.St} {env : Env} {α β γ δ : Type}
theorem Post.step [Tbl] {VA : Wd → β → α → Prop} {r : Rs α} {Q : β → Hp → Prop} {E : XK} (s : Step w H w' H') (p : Post K gm VA w H r Q E) : Post K gm VA w' H' r Q E := by
  cases r with
  | ok a h => exact fun v w2 H2 s2 ok vr => p v w2 H2 (s.trans s2) ok vr
  | err c fs h => exact fun cv d w2 H2 hc s2 ok x => p cv d w2 H2 hc (s.trans s2) ok x
  | stuck => exact p
theorem PostS.step [Tbl] {r : RS} {D : Ends} {W : WX} (s : Step w H w' H') (p : PostS K gm w H r D W) : PostS K gm w' H' r D W := by
  cases r with
  | nx e h => exact fun v w2 H2 s2 ok vr => p v w2 H2 (s.trans s2) ok vr
  | bk e h => exact fun v w2 H2 s2 ok vr => p v w2 H2 (s.trans s2) ok vr
  | ct e h => exact fun v w2 H2 s2 ok vr => p v w2 H2 (s.trans s2) ok vr
  | rt e h => exact fun v w2 H2 s2 ok vr => p v w2 H2 (s.trans s2) ok vr
  | er c fs e h => exact fun cv d v w2 H2 hc s2 ok vr x => p cv d v w2 H2 hc (s.trans s2) ok vr x
  | stuck => exact p
/-- a part's result, then the rest -/
theorem Post.bind [Tbl] {VA : Wd → β → α → Prop} {VB : Wd → δ → γ → Prop} {r : Rs α} {f : α → Hap → Rs γ} {Q : δ → Hp → Prop} {Q1 : β → Hp → Prop} {E : XK} (p : Post K gm VB w H (r.bind f) Q E)
    (k : ∀ v a w' H' h', Step w H w' H' → Ok K w' H' h' → VA w' v a → Post K gm VB w' H' (f a h') Q E → Q1 v H') : Post K gm VA w H r Q1 E := by
  cases r with
  | ok a h => exact fun v w' H' s ok vr => k v a w' H' h s ok vr (Post.step s p)
  | err c fs h => exact p
  | stuck => exact p
/-- .. behind an expression a statement's flow -/
@[reducible] def RsS (r : Rs α) (env : Env) (f : α → Hap → RS) : RS := match r with
  | .ok a h => f a h
  | .err c fs h => .er c fs env h
  | .stuck => .stuck
theorem PostS.bind [Tbl] {VA : Wd → β → α → Prop} {r : Rs α} {f : α → Hap → RS} {D : Ends} {W : WX} {Q1 : β → Hp → Prop} (er : EnvR K w σ env) (p : PostS K gm w H (RsS r env f) D W)
    (k : ∀ v a w' H' h', Step w H w' H' → Ok K w' H' h' → VA w' v a → PostS K gm w' H' (f a h') D W → Q1 v H') : Post K gm VA w H r Q1 (fun c d H' => W c d σ H') := by
  cases r with
  | ok a h => exact fun v w' H' s ok vr => k v a w' H' h s ok vr (PostS.step s p)
  | err c fs h => exact fun cv d w' H' hc s ok x => p cv d σ w' H' hc s ok (er.mono s) x
  | stuck => exact p
theorem Post.ok [Tbl] {VA : Wd → β → α → Prop} {a : α} {v : β} {Q : β → Hp → Prop} {E : XK} (ok : Ok K w H h) (vr : VA w v a) (p : Post K gm VA w H (.ok a h) Q E) : Q v H := p v w H (Step.refl w H) ok vr
theorem Post.alloc [Tbl] {ds : D} {p : Addr} {o : HO} {Q : VK} {E : XK} (ok : Ok K w H h) (hp : H p = none) (vr : VR K ⟨upd w.F p o, w.ρ⟩ (.ref p) ds) (q : Post K gm (VR K) w H (.ok ds h) Q E) : Q (.ref p) (upd H p o) :=
  q _ _ _ (ok.alloc hp).2 (ok.alloc hp).1 vr
end

/-! ### names, constants -/
def mVar (i : Nat) : ME := fun env h => match env[i]? with
  | some (some d) => .ok d h
  | _ => .stuck
def mC (d : D) : ME := fun _ h => .ok d h
section
variable {X : Cx} {W : WX}
theorem e_var [Tbl] {i : Nat} {x : Str} {pos : Pos} (hN : X.N[i]? = some x) (hv : Vis X.env.scope x) (hd : (x == ("__debug__" : Str)) = false := by decide) (hcd : (x == ("__classdict__" : Str)) = false := by decide) : PE X (.Name x pos) (tE X.K X.mg W (mVar i)) :=
  PE.imp (pe_var hN hv hd hcd) fun σ H Q ⟨w, env, h, ok, er, p⟩ => by
    unfold mVar at p
    split at p
    · next d e =>
      obtain ⟨v, e1, vr⟩ := er.get i d e
      exact ⟨v, e1, p.ok ok vr⟩
    · exact p.elim
theorem e_c [Tbl] {e : Expr} {v : V} {d : D} (pe : PE X e (tC v)) (hv : ∀ w, VR X.K w v d) : PE X e (tE X.K X.mg W (mC d)) :=
  PE.imp pe fun σ H Q ⟨w, env, h, ok, er, p⟩ => p.ok ok (hv w)
theorem e_int [Tbl] {i : Int} {j : Nat} {pos : Pos} : PE X (.Constant (.int i) j pos) (tE X.K X.mg W (mC (.int i))) := e_c pe_int fun _ => .int i
theorem e_str [Tbl] {i : Str} {j : Nat} {pos : Pos} : PE X (.Constant (.str i) j pos) (tE X.K X.mg W (mC (.str i))) := e_c pe_str fun _ => .str i
theorem e_bl [Tbl] {i : Bool} {j : Nat} {pos : Pos} : PE X (.Constant (.bool i) j pos) (tE X.K X.mg W (mC (.bl i))) := e_c pe_bl fun _ => .bl i
theorem e_non [Tbl] {j : Nat} {pos : Pos} : PE X (.Constant .none j pos) (tE X.K X.mg W (mC .non)) := e_c pe_non fun _ => .non
/-- a constant of the module: an int, a text, a bool -/
theorem e_gint [Tbl] {x : Str} {i : Int} {pos : Pos} (hm : ∃ t, X.mg x = some (.int i t)) (hg : Gl X x) (hd : (x == ("__debug__" : Str)) = false := by decide) : PE X (.Name x pos) (tE X.K X.mg W (mC (.int i))) := by
  obtain ⟨t, hm⟩ := hm
  exact e_c (v := .int i) (pe_glob hg hm ⟨t, rfl⟩ hd) fun _ => .int i
/-- a built-in class as a value -/
theorem e_ty [Tbl] {x : Str} {n : String} {pos : Pos} (hm : X.mg x = none) (hv : bootBuiltins x = some (.type n)) (hg : Gl X x) (hn : x ≠ "__name__" := by decide) (hd : (x == ("__debug__" : Str)) = false := by decide) : PE X (.Name x pos) (tE X.K X.mg W (mC (.ty n))) :=
  e_c (v := .ty n) (pe_bltn hg hm hv rfl hn hd) fun _ => .ty n

/-! ### operators -/
/-- a rule on values does what g does on data; it leaves the cells -/
def OpS [Tbl] (K : PySem.W.Frag) (r : R2) (g : D → D → Hap → Option D) : Prop := ∀ (w : Wd) (H : Hp) (h : Hap) (x y : V) (a b d : D) (Q : VK), Ok K w H h → VR K w x a → VR K w y b → g a b h = some d →
  (∀ v w' H', Step w H w' H' → Ok K w' H' h → VR K w' v d → Q v H') → r x y H Q
def UnS [Tbl] (K : PySem.W.Frag) (r : V → Hp → VK → Prop) (g : D → Hap → Option D) : Prop := ∀ (w : Wd) (H : Hp) (h : Hap) (x : V) (a d : D) (Q : VK), Ok K w H h → VR K w x a → g a h = some d →
  (∀ v w' H', Step w H w' H' → Ok K w' H' h → VR K w' v d → Q v H') → r x H Q
def rOr (r s : R2) : R2 := fun x y H Q => r x y H Q ∨ s x y H Q
theorem OpR.or {f : Value → Value → Sem Value} {r s : R2} (h1 : OpR X f r) (h2 : OpR X f s) : OpR X f (rOr r s) := fun pins t σ H x y v u Q I rx ry z => by
  rcases z with z | z
  · exact h1 pins t σ H x y v u Q I rx ry z
  · exact h2 pins t σ H x y v u Q I rx ry z
def mBin (g : D → D → Hap → Option D) (a b : ME) : ME := fun env h => (a env h).bind fun x h1 => (b env h1).bind fun y h2 => ofO (g x y h2) h2
def mUn (g : D → Hap → Option D) (a : ME) : ME := fun env h => (a env h).bind fun x h1 => ofO (g x h1) h1
theorem ofO_post [Tbl] {K : PySem.W.Frag} {α β : Type} {VA : Wd → β → α → Prop} {w : Wd} {H : Hp} {h : Hap} {o : Option α} {Q : β → Hp → Prop} {E : XK} (p : Post K gm VA w H (ofO o h) Q E) : ∃ d, o = some d ∧ ∀ v w' H', Step w H w' H' → Ok K w' H' h → VA w' v d → Q v H' := by
  cases o with
  | none => exact p.elim
  | some d => exact ⟨d, rfl, p⟩
theorem t_bin [Tbl] {K : PySem.W.Frag} {r : R2} {g : D → D → Hap → Option D} {a b : ME} (s : OpS K r g) : ∀ σ H Q, tE K gm W (mBin g a b) σ H Q → tOp r (tE K gm W a) (tE K gm W b) σ H Q := fun σ H Q ⟨w, env, h, ok, er, p⟩ =>
  ⟨w, env, h, ok, er, Post.bind p fun x da w1 H1 h1 s1 ok1 v1 p1 => ⟨w1, env, h1, ok1, er.mono s1, Post.bind p1 fun y db w2 H2 h2 s2 ok2 v2 p2 => by
    obtain ⟨d, e, q⟩ := ofO_post p2
    exact s w2 H2 h2 x y da db d Q ok2 (v1.mono s2) v2 e q⟩⟩
theorem t_un [Tbl] {K : PySem.W.Frag} {r : V → Hp → VK → Prop} {g : D → Hap → Option D} {a : ME} (s : UnS K r g) : ∀ σ H Q, tE K gm W (mUn g a) σ H Q → tUn r (tE K gm W a) σ H Q := fun σ H Q ⟨w, env, h, ok, er, p⟩ =>
  ⟨w, env, h, ok, er, Post.bind p fun x da w1 H1 h1 s1 ok1 v1 p1 => by
    obtain ⟨d, e, q⟩ := ofO_post p1
    exact s w1 H1 h1 x da d Q ok1 v1 e q⟩
theorem e_bin [Tbl] {op : Operator} {r : R2} {g : D → D → Hap → Option D} {a b : Expr} {ma mb : ME} {pos : Pos} (ho : OpR X (binaryOp op) r) (s : OpS X.K r g) (ha : PE X a (tE X.K X.mg W ma)) (hb : PE X b (tE X.K X.mg W mb)) : PE X (.BinOp a op b pos) (tE X.K X.mg W (mBin g ma mb)) := PE.imp (pe_op ho ha hb) (t_bin s)
theorem e_un [Tbl] {op : UnaryOp} {r : V → Hp → VK → Prop} {g : D → Hap → Option D} {a : Expr} {ma : ME} {pos : Pos} (ho : UnR X (unaryOp op) r) (s : UnS X.K r g) (ha : PE X a (tE X.K X.mg W ma)) : PE X (.UnaryOp op a pos) (tE X.K X.mg W (mUn g ma)) := PE.imp (pe_un ho ha) (t_un s)
theorem e_cmp [Tbl] {op : CmpOp} {r : R2} {g : D → D → Hap → Option D} {a b : Expr} {ma mb : ME} {pos : Pos} (ho : OpR X (compareOp op) r) (s : OpS X.K r g) (ha : PE X a (tE X.K X.mg W ma)) (hb : PE X b (tE X.K X.mg W mb)) (hm : behindInMarks op b = false) : PE X (.Compare a [op] [b] pos) (tE X.K X.mg W (mBin g ma mb)) := PE.imp (pe_cmpR ho ha hb hm) (t_bin s)

/-! ### tests -/
def oB : D → Option Bool
  | .bl b => some b
  | _ => none
def mTst (a : ME) : MT := fun env h => (a env h).bind fun x h1 => ofO (oB x) h1
theorem oB_some {d : D} {b : Bool} (e : oB d = some b) : d = .bl b := by
  cases d <;> simp [oB] at e
  rw [e]
theorem t_tst [Tbl] {K : PySem.W.Frag} {a : ME} {te : TE} (ht : ∀ σ H Q, tE K gm W a σ H Q → te σ H Q) : ∀ σ H Q, tT K gm W (mTst a) σ H Q → tTest te σ H Q := fun σ H Q ⟨w, env, h, ok, er, p⟩ =>
  ht _ _ _ ⟨w, env, h, ok, er, Post.bind p fun x da w1 H1 h1 s1 ok1 v1 p1 => by
    obtain ⟨b, e, q⟩ := ofO_post p1
    have e2 := oB_some e
    subst e2
    cases v1
    exact ⟨b, rfl, q b w1 H1 (Step.refl _ _) ok1 rfl⟩⟩
theorem c_cmp [Tbl] {op : CmpOp} {r : R2} {g : D → D → Hap → Option D} {a b : Expr} {ma mb : ME} {pos : Pos} (ho : OpR X (compareOp op) r) (s : OpS X.K r g) (ha : PE X a (tE X.K X.mg W ma)) (hb : PE X b (tE X.K X.mg W mb)) (hm : behindInMarks op b = false) : PT X (.Compare a [op] [b] pos) (tT X.K X.mg W (mTst (mBin g ma mb))) := PT.imp (pt_cmpR ho ha hb hm) (t_tst (t_bin s))
/-- a value that is True or False -/
theorem c_val [Tbl] {e : Expr} {m : ME} (hp : PE X e (tE X.K X.mg W m)) (he : ∀ whole, isTrue e X.env whole = (do let v ← whole; standAt e.pos; holding [v] (truthy v)) := by intro _; rfl) : PT X e (tT X.K X.mg W (mTst m)) := PT.imp (pt_val hp he) (t_tst fun _ _ _ h => h)
def mNotT (a : MT) : MT := fun env h => (a env h).bind fun b h1 => .ok (!b) h1
def mAndT (a b : MT) : MT := fun env h => (a env h).bind fun x h1 => if x = true then b env h1 else .ok false h1
def mOrT (a b : MT) : MT := fun env h => (a env h).bind fun x h1 => if x = true then .ok true h1 else b env h1
theorem c_not [Tbl] {a : Expr} {ma : MT} {pos : Pos} (ha : PT X a (tT X.K X.mg W ma)) : PT X (.UnaryOp .Not a pos) (tT X.K X.mg W (mNotT ma)) := PT.imp (pt_not ha) fun σ H Q ⟨w, env, h, ok, er, p⟩ =>
  ⟨w, env, h, ok, er, Post.bind p fun x da w1 H1 h1 s1 ok1 v1 p1 => by
    cases v1
    exact p1 _ w1 H1 (Step.refl _ _) ok1 rfl⟩
theorem w_and [Tbl] {a b : Expr} {rest : List Expr} {ma mb : MT} {pos : Pos} (ha : PT X a (tT X.K X.mg W ma)) (hb : PW X (.BoolOp .And (b :: rest) pos) (tT X.K X.mg W mb)) : PW X (.BoolOp .And (a :: b :: rest) pos) (tT X.K X.mg W (mAndT ma mb)) := PW.imp (pw_and ha hb) fun σ H Q ⟨w, env, h, ok, er, p⟩ =>
  ⟨w, env, h, ok, er, Post.bind p fun x da w1 H1 h1 s1 ok1 v1 p1 => by
    cases v1
    cases x with
    | true => exact ⟨w1, env, h1, ok1, er.mono s1, p1⟩
    | false => exact p1 _ w1 H1 (Step.refl _ _) ok1 rfl⟩
theorem w_and1 [Tbl] {a : Expr} {ma : MT} {pos : Pos} (ha : PT X a (tT X.K X.mg W ma)) : PW X (.BoolOp .And [a] pos) (tT X.K X.mg W ma) := pw_and1 ha
theorem w_or [Tbl] {a b : Expr} {rest : List Expr} {ma mb : MT} {pos : Pos} (ha : PT X a (tT X.K X.mg W ma)) (hb : PW X (.BoolOp .Or (b :: rest) pos) (tT X.K X.mg W mb)) : PW X (.BoolOp .Or (a :: b :: rest) pos) (tT X.K X.mg W (mOrT ma mb)) := PW.imp (pw_or ha hb) fun σ H Q ⟨w, env, h, ok, er, p⟩ =>
  ⟨w, env, h, ok, er, Post.bind p fun x da w1 H1 h1 s1 ok1 v1 p1 => by
    cases v1
    cases x with
    | false => exact ⟨w1, env, h1, ok1, er.mono s1, p1⟩
    | true => exact p1 _ w1 H1 (Step.refl _ _) ok1 rfl⟩
theorem w_or1 [Tbl] {a : Expr} {ma : MT} {pos : Pos} (ha : PT X a (tT X.K X.mg W ma)) : PW X (.BoolOp .Or [a] pos) (tT X.K X.mg W ma) := pw_or1 ha
theorem c_w [Tbl] {a : Expr} {ma : MT} (h : PW X a (tT X.K X.mg W ma)) : PT X a (tT X.K X.mg W ma) := PW.pt h
/-- and, or, not as values (all but the last are True or False) -/
def mAnd (a b : ME) : ME := fun env h => (a env h).bind fun x h1 => match x with
  | .bl true => b env h1
  | .bl false => .ok (.bl false) h1
  | _ => .stuck
theorem e_and [Tbl] {a b : Expr} {rest : List Expr} {ma mb : ME} {pos : Pos} (ha : PE X a (tE X.K X.mg W ma)) (hb : PE X (.BoolOp .And (b :: rest) pos) (tE X.K X.mg W mb)) : PE X (.BoolOp .And (a :: b :: rest) pos) (tE X.K X.mg W (mAnd ma mb)) := PE.imp (pe_and ha hb) fun σ H Q ⟨w, env, h, ok, er, p⟩ =>
  ⟨w, env, h, ok, er, Post.bind p fun x da w1 H1 h1 s1 ok1 v1 p1 => by
    cases v1 <;> try exact p1.elim
    next b =>
    refine ⟨b, rfl, ?_⟩
    cases b with
    | true => exact ⟨w1, env, h1, ok1, er.mono s1, p1⟩
    | false => exact p1.ok ok1 (.bl false)⟩
theorem e_one [Tbl] {op : BoolOp} {a : Expr} {ma : ME} {pos : Pos} (ha : PE X a (tE X.K X.mg W ma)) : PE X (.BoolOp op [a] pos) (tE X.K X.mg W ma) := pe_one ha
def mNot (a : ME) : ME := fun env h => (a env h).bind fun x h1 => match x with
  | .bl b => .ok (.bl (!b)) h1
  | _ => .stuck
theorem e_not [Tbl] {a : Expr} {ma : ME} {pos : Pos} (ha : PE X a (tE X.K X.mg W ma)) : PE X (.UnaryOp .Not a pos) (tE X.K X.mg W (mNot ma)) := PE.imp (pe_not ha) fun σ H Q ⟨w, env, h, ok, er, p⟩ =>
  ⟨w, env, h, ok, er, Post.bind p fun x da w1 H1 h1 s1 ok1 v1 p1 => by
    cases v1 <;> try exact p1.elim
    next b => exact ⟨b, rfl, p1.ok ok1 (.bl _)⟩⟩
/-! ### argument lists, displays -/
def mNil : MA := fun _ h => .ok [] h
def mCons (a : ME) (r : MA) : MA := fun env h => (a env h).bind fun x h1 => (r env h1).bind fun xs h2 => .ok (x :: xs) h2
theorem a_nil [Tbl] : PA X [] (tA X.K X.mg W mNil) := PA.imp pa_nil fun σ H Q ⟨w, env, h, ok, er, p⟩ => p.ok ok .nil
theorem a_cons [Tbl] {e : Expr} {es : List Expr} {m : ME} {r : MA} (ha : PE X e (tE X.K X.mg W m)) (hr : PA X es (tA X.K X.mg W r)) (hs : starEach (e :: es) X.env = (false, eval e X.env) :: starEach es X.env := by rfl) : PA X (e :: es) (tA X.K X.mg W (mCons m r)) :=
  PA.imp (pa_cons ha hr hs) fun σ H Q ⟨w, env, h, ok, er, p⟩ => ⟨w, env, h, ok, er, Post.bind p fun x da w1 H1 h1 s1 ok1 v1 p1 => ⟨w1, env, h1, ok1, er.mono s1, Post.bind p1 fun xs ds w2 H2 h2 s2 ok2 v2 p2 => p2.ok ok2 (.cons (v1.mono s2) v2)⟩⟩
def mTup (a : MA) : ME := fun env h => (a env h).bind fun xs h1 => if xs.length ≤ sizeLine then .ok (.tup xs) h1 else .stuck
def mLst (a : MA) : ME := fun env h => (a env h).bind fun xs h1 => if xs.length ≤ sizeLine then .ok (.lst xs) h1 else .stuck
/-- a list that will change -/
def mCel (a : MA) : ME := fun env h => (a env h).bind fun xs h1 => if xs.length ≤ sizeLine then .ok (.ref h1.length) (h1 ++ [.lst xs]) else .stuck
section
variable {K : PySem.W.Frag} {w : Wd} {H : Hp} {h : Hap} {p : Addr} {vs : List V} {ds : List D}
theorem VRs.alloc [Tbl] (ok : Ok K w H h) {o : HO} (hp : H p = none) (r : VRs K w vs ds) : VRs K ⟨upd w.F p o, w.ρ⟩ vs ds := r.mono (ok.alloc hp).2
theorem vr_lst [Tbl] (ok : Ok K w H h) (hp : H p = none) (r : VRs K w vs ds) : VR K ⟨upd w.F p (.lst vs), w.ρ⟩ (.ref p) (.lst ds) := .lst upd_same (r.alloc ok hp)
theorem vr_tup [Tbl] (ok : Ok K w H h) (hp : H p = none) (r : VRs K w vs ds) : VR K ⟨upd w.F p (.tup vs), w.ρ⟩ (.ref p) (.tup ds) := .tup (.inl (.inl upd_same)) (r.alloc ok hp)
end
theorem e_tup [Tbl] {es : List Expr} {m : MA} {k : Nat} {pos : Pos} (ha : PA X es (tA X.K X.mg W m)) : PE X (.Tuple es k pos) (tE X.K X.mg W (mTup m)) := PE.imp (pe_tup ha) fun σ H Q ⟨w, env, h, ok, er, p⟩ =>
  ⟨w, env, h, ok, er, Post.bind p fun x da w1 H1 h1 s1 ok1 v1 p1 => by
    by_cases hl : da.length ≤ sizeLine
    · rw [if_pos hl] at p1
      exact ⟨by rw [v1.length]; exact hl, fun a ha => p1.alloc ok1 ha (vr_tup ok1 ha v1)⟩
    · rw [if_neg hl] at p1
      exact p1.elim⟩
theorem e_lst [Tbl] {es : List Expr} {m : MA} {pos : Pos} (ha : PA X es (tA X.K X.mg W m)) : PE X (.List es pos) (tE X.K X.mg W (mLst m)) := PE.imp (pe_lst ha) fun σ H Q ⟨w, env, h, ok, er, p⟩ =>
  ⟨w, env, h, ok, er, Post.bind p fun x da w1 H1 h1 s1 ok1 v1 p1 => by
    by_cases hl : da.length ≤ sizeLine
    · rw [if_pos hl] at p1
      exact ⟨by rw [v1.length]; exact hl, fun a ha => p1.alloc ok1 ha (vr_lst ok1 ha v1)⟩
    · rw [if_neg hl] at p1
      exact p1.elim⟩
theorem e_cel [Tbl] {es : List Expr} {m : MA} {pos : Pos} (ha : PA X es (tA X.K X.mg W m)) : PE X (.List es pos) (tE X.K X.mg W (mCel m)) := PE.imp (pe_lst ha) fun σ H Q ⟨w, env, h, ok, er, p⟩ =>
  ⟨w, env, h, ok, er, Post.bind p fun x da w1 H1 h1 s1 ok1 v1 p1 => by
    by_cases hl : da.length ≤ sizeLine
    · rw [if_pos hl] at p1
      refine ⟨by rw [v1.length]; exact hl, fun a ha => ?_⟩
      have q := ok1.cell (c := .lst da) (o := .lst x) ha v1
      refine p1 _ _ _ q.2 q.1 (.ref ?_)
      show (w1.ρ ++ [a])[h1.length]? = some a
      rw [← ok1.len, List.getElem?_append_right (Nat.le_refl _), Nat.sub_self]
      rfl
    · rw [if_neg hl] at p1
      exact p1.elim⟩
end
end Vi

set_option Elab.async false
set_option linter.all false
set_option autoImplicit false
set_option maxRecDepth 100000
set_option maxHeartbeats 2000000
namespace Vi
open PySem PySem.Spec PyProof.Rows L2
variable {gm : Str → Option Value}
open scoped Classical
noncomputable section

/-! ### readers of data -/
def ch (c : Nat) : Str := ⟨#[c]⟩
def getL (d : D) (h : Hap) : Option (List D) := match d with
  | .lst xs => some xs
  | .klst xs => some xs
  | .ref i => match h[i]? with
    | some (.lst xs) => some xs
    | _ => none
  | _ => none
def getT (d : D) : Option (List D) := match d with
  | .tup xs => some xs
  | _ => none
/-- list or tuple -/
def getQ (d : D) (h : Hap) : Option (List D) := match d with
  | .tup xs => some xs
  | d => getL d h
/-- a list that stands for itself in the heap -/
def getM (d : D) (h : Hap) : Option (List D) := match d with
  | .lst xs => some xs
  | .ref i => match h[i]? with
    | some (.lst xs) => some xs
    | _ => none
  | _ => none
/-- what a for walks: items of a list, a tuple, the signs of a text -/
def seqOf (d : D) (h : Hap) : Option (List D) := match d with
  | .str z => some (z.cps.toList.map fun c => .str (ch c))
  | .tup xs => some xs
  | d => getL d h
section
variable {K : PySem.W.Frag} {w : Wd} {H : Hp} {h : Hap} {x : V} {d : D} {ds : List D}
theorem getM_ok [Tbl] (ok : Ok K w H h) (r : VR K w x d) (e : getM d h = some ds) : ∃ a vs, x = .ref a ∧ H a = some (.lst vs) ∧ VRs K w vs ds := by
  cases r <;> simp [getM] at e
  case lst a vs ds' e1 e2 =>
    subst e
    exact ⟨a, vs, rfl, ok.sub _ _ e1, e2⟩
  case ref a i e1 =>
    split at e
    · next xs e2 =>
      cases e
      obtain ⟨_, o, e3, e4⟩ := ok.cel i a _ e1 e2
      cases o <;> simp [CRel] at e4
      next vs => exact ⟨a, vs, rfl, e3, e4⟩
    · cases e
theorem getL_ok [Tbl] (ok : Ok K w H h) (r : VR K w x d) (e : getL d h = some ds) : ∃ a vs, x = .ref a ∧ SqL K H a vs ∧ VRs K w vs ds := by
  cases r <;> simp [getL] at e
  case lst a vs ds' e1 e2 =>
    subst e
    exact ⟨a, vs, rfl, .inl (.inl (ok.sub _ _ e1)), e2⟩
  case klst a vs ds' e1 e2 =>
    subst e
    exact ⟨a, vs, rfl, sqL_mono ok.sub e1, e2⟩
  case ref a i e1 =>
    split at e
    · next xs e2 =>
      cases e
      obtain ⟨_, o, e3, e4⟩ := ok.cel i a _ e1 e2
      cases o <;> simp [CRel] at e4
      next vs => exact ⟨a, vs, rfl, .inl (.inl e3), e4⟩
    · cases e
theorem getT_ok [Tbl] (ok : Ok K w H h) (r : VR K w x d) (e : getT d = some ds) : ∃ a vs, x = .ref a ∧ SqT K H a vs ∧ VRs K w vs ds := by
  cases r <;> simp [getT] at e
  case tup a vs ds' e1 e2 =>
    subst e
    exact ⟨a, vs, rfl, sqT_mono ok.sub e1, e2⟩
theorem getQ_ok [Tbl] (ok : Ok K w H h) (r : VR K w x d) (e : getQ d h = some ds) : ∃ a vs, x = .ref a ∧ (SqL K H a vs ∨ SqT K H a vs) ∧ VRs K w vs ds := by
  unfold getQ at e
  split at e
  · cases e
    obtain ⟨a, vs, q1, q2, q3⟩ := getT_ok ok r rfl
    exact ⟨a, vs, q1, .inr q2, q3⟩
  · obtain ⟨a, vs, q1, q2, q3⟩ := getL_ok ok r e
    exact ⟨a, vs, q1, .inl q2, q3⟩
end

/-! ### arithmetic -/
/-- + -/
def dAdd : D → D → Hap → Option D := fun a b h => match a, b with
  | .int i, .int j => some (.int (i + j))
  | .str x, .str y => if x.length + y.length ≤ sizeLine then some (.str (x ++ y)) else none
  | .tup xs, .tup ys => if xs.length + ys.length ≤ sizeLine then some (.tup (xs ++ ys)) else none
  | a, b => match getM a h, getM b h with
    | some xs, some ys => if xs.length + ys.length ≤ sizeLine then some (.lst (xs ++ ys)) else none
    | _, _ => none
def rAddS' : R2 := fun x y H Q => ∃ i j, x = .str i ∧ y = .str j ∧ i.length + j.length ≤ sizeLine ∧ Q (.str (i ++ j)) H
def rAdd' (K : PySem.W.Frag) : R2 := rOr (rI0 fun i j => .int (i + j)) (rOr rAddS' (rOr rCat (rCatA K)))
theorem o_add {X : Cx} : OpR X (binaryOp .Add) (rAdd' X.K) := OpR.or op_add (OpR.or op_add_str (OpR.or op_cat op_catA))
theorem s_add [Tbl] {K : PySem.W.Frag} : OpS K (rAdd' K) dAdd := by
  intro w H h x y a b d Q ok vx vy e q
  have cat : (match getM a h, getM b h with
    | some xs, some ys => if xs.length + ys.length ≤ sizeLine then some (D.lst (xs ++ ys)) else none
    | _, _ => none) = some d → rAdd' K x y H Q := by
    intro e
    split at e
    · next xs ys e1 e2 =>
      obtain ⟨p1, v1, rfl, h1, r1⟩ := getM_ok ok vx e1
      obtain ⟨p2, v2, rfl, h2, r2⟩ := getM_ok ok vy e2
      split at e
      · next hl =>
        cases e
        refine .inr (.inr (.inl ⟨p1, p2, v1, v2, rfl, rfl, h1, h2, by rw [r1.length, r2.length]; exact hl, fun p hp => ?_⟩))
        exact q _ _ _ (ok.alloc hp).2 (ok.alloc hp).1 (vr_lst ok hp (r1.append r2))
      · cases e
    · cases e
  unfold dAdd at e
  split at e
  · cases e
    cases vx
    cases vy
    exact .inl ⟨_, _, rfl, rfl, q _ _ _ (Step.refl _ _) ok (.int _)⟩
  · split at e
    · next hl =>
      cases e
      cases vx
      cases vy
      exact .inr (.inl ⟨_, _, rfl, rfl, hl, q _ _ _ (Step.refl _ _) ok (.str _)⟩)
    · cases e
  · split at e
    · next xs ys hl =>
      cases e
      obtain ⟨p1, v1, rfl, h1, r1⟩ := getT_ok ok vx rfl
      obtain ⟨p2, v2, rfl, h2, r2⟩ := getT_ok ok vy rfl
      refine .inr (.inr (.inr ⟨p1, p2, v1, v2, rfl, rfl, h1, h2, by rw [r1.length, r2.length]; exact hl, fun z => ?_, fun z z2 => ?_, fun z z2 p hp => ?_⟩))
      · subst z
        have : xs = [] := by cases r1; rfl
        subst this
        exact q _ _ _ (Step.refl _ _) ok vy
      · subst z2
        have : ys = [] := by cases r2; rfl
        subst this
        rw [List.append_nil] at q
        exact q _ _ _ (Step.refl _ _) ok vx
      · exact q _ _ _ (ok.alloc hp).2 (ok.alloc hp).1 (vr_tup ok hp (r1.append r2))
    · cases e
  · exact cat e
def dSub : D → D → Hap → Option D := fun a b _ => match a, b with
  | .int i, .int j => some (.int (i - j))
  | _, _ => none
theorem s_I0 [Tbl] {K : PySem.W.Frag} {g : Int → Int → V} {f : D → D → Hap → Option D} (hf : ∀ a b h d, f a b h = some d → ∃ i j, a = .int i ∧ b = .int j ∧ ∀ w, VR K w (g i j) d) : OpS K (rI0 g) f := by
  intro w H h x y a b d Q ok vx vy e q
  obtain ⟨i, j, rfl, rfl, e'⟩ := hf a b h d e
  cases vx
  cases vy
  exact ⟨i, j, rfl, rfl, q _ _ _ (Step.refl _ _) ok (e' w)⟩
theorem s_I [Tbl] {K : PySem.W.Frag} {C : Int → Int → Prop} {g : Int → Int → V} {f : D → D → Hap → Option D} (hf : ∀ a b h d, f a b h = some d → ∃ i j, a = .int i ∧ b = .int j ∧ C i j ∧ ∀ w, VR K w (g i j) d) : OpS K (rI C g) f := by
  intro w H h x y a b d Q ok vx vy e q
  obtain ⟨i, j, rfl, rfl, c, e'⟩ := hf a b h d e
  cases vx
  cases vy
  exact ⟨i, j, rfl, rfl, c, q _ _ _ (Step.refl _ _) ok (e' w)⟩
theorem s_sub [Tbl] {K : PySem.W.Frag} : OpS K (rI0 fun i j => .int (i - j)) dSub := s_I0 fun a b h d e => by
  unfold dSub at e
  split at e <;> cases e
  exact ⟨_, _, rfl, rfl, fun _ => .int _⟩
def dMod : D → D → Hap → Option D := fun a b _ => match a, b with
  | .int i, .int j => if j ≠ 0 then some (.int (i.fmod j)) else none
  | _, _ => none
theorem s_mod [Tbl] {K : PySem.W.Frag} : OpS K (rI (fun _ j => j ≠ 0) fun i j => .int (i.fmod j)) dMod := s_I fun a b h d e => by
  unfold dMod at e
  split at e
  · split at e
    · next c => cases e; exact ⟨_, _, rfl, rfl, c, fun _ => .int _⟩
    · cases e
  · cases e
def dDiv : D → D → Hap → Option D := fun a b _ => match a, b with
  | .int i, .int j => if CDivN i j then some (.int (i.fdiv j)) else none
  | _, _ => none
theorem s_div [Tbl] {K : PySem.W.Frag} : OpS K (rI CDivN fun i j => .int (i.fdiv j)) dDiv := s_I fun a b h d e => by
  unfold dDiv at e
  split at e
  · split at e
    · next c => cases e; exact ⟨_, _, rfl, rfl, c, fun _ => .int _⟩
    · cases e
  · cases e
def dPow : D → D → Hap → Option D := fun a b _ => match a, b with
  | .int i, .int j => if CPow i j then some (.int (i ^ j.toNat)) else none
  | _, _ => none
theorem s_pow [Tbl] {K : PySem.W.Frag} : OpS K (rI CPow fun i j => .int (i ^ j.toNat)) dPow := s_I fun a b h d e => by
  unfold dPow at e
  split at e
  · split at e
    · next c => cases e; exact ⟨_, _, rfl, rfl, c, fun _ => .int _⟩
    · cases e
  · cases e
/-- * : ints (one of them small), a text by an int -/
def dMul : D → D → Hap → Option D := fun a b _ => match a, b with
  | .int i, .int j => if CMul i j then some (.int (i * j)) else none
  | .str z, .int n => if 0 ≤ n ∧ n < 2 ^ 62 ∧ z.length * n.toNat ≤ sizeLine then some (.str ⟨(List.replicate n.toNat z.cps.toList).flatten.toArray⟩) else none
  | _, _ => none
def rMulS : R2 := fun x y H Q => ∃ z n, x = .str z ∧ y = .int n ∧ (0 ≤ n ∧ n < 2 ^ 62 ∧ z.length * n.toNat ≤ sizeLine) ∧ Q (.str ⟨(List.replicate n.toNat z.cps.toList).flatten.toArray⟩) H
theorem foldl_app {α : Type} : ∀ (n : Nat) (b : Array α) (acc : Array α), ((List.replicate n b).foldl (· ++ ·) acc).toList = acc.toList ++ (List.replicate n b.toList).flatten
  | 0, _, _ => by simp
  | n + 1, b, acc => by
    rw [List.replicate_succ, List.foldl_cons, foldl_app n b, List.replicate_succ, List.flatten_cons]
    simp
theorem mul_is {z : Str} {n : Int} (h0 : 0 ≤ n) : Txt.mul z n = ⟨(List.replicate n.toNat z.cps.toList).flatten.toArray⟩ := by
  unfold Txt.mul
  by_cases h1 : n < 1
  · rw [if_pos h1]
    have : n = 0 := by omega
    subst this
    rfl
  · rw [if_neg h1]
    by_cases h2 : (n == 1 || z.length == 0) = true
    · rw [if_pos h2]
      obtain ⟨cs⟩ := z
      rcases (Bool.or_eq_true_iff.mp h2) with q | q
      · have : n = 1 := by simpa using q
        subst this
        simp
      · have e : cs.size = 0 := by simpa [Str.length] using q
        have e2 : cs = #[] := Array.eq_empty_of_size_eq_zero e
        subst e2
        simp
    · rw [if_neg h2]
      congr 1
      apply Array.ext'
      rw [foldl_app]
      simp
theorem op_mulS {X : Cx} : OpR X (binaryOp .Mult) rMulS := by
  intro pins s σ H x y v u Q I rx ry h
  obtain ⟨z, n, rfl, rfl, ⟨h0, h1, h2⟩, q⟩ := h
  obtain ⟨t, rfl⟩ := rx
  obtain ⟨t2, rfl⟩ := ry
  have hs : sizeLine = 16777216 := sizeLine_eq
  refine SB.mul (x := z) ⟨?_, fun h3 h4 h5 => ?_, fun h3 h4 => ?_⟩ fun t' k => ?_
  · simp; omega
  · have e0 : z.length ≠ 0 := fun e => by simp [e] at h4
    have : (z.length : Int) ≤ 16777216 := by
      have : z.length * 1 ≤ z.length * n.toNat := Nat.mul_le_mul_left _ (by omega)
      omega
    have hd : (16777216 : Int) ≤ (2 ^ 63 - 1) / n := by
      refine (Int.le_ediv_iff_mul_le (by omega)).mpr ?_
      have : n ≤ 16777216 := by
        have : 1 * n.toNat ≤ z.length * n.toNat := Nat.mul_le_mul_right _ (by omega)
        omega
      omega
    omega
  · show Builtin.Str.tooLong _ = false
    unfold Builtin.Str.tooLong
    simp
    omega
  · rw [mul_is h0]
    exact ⟨.str _, H, by obtain ⟨hh, g, d, tk, os⟩ := s; exact I.tok _, ⟨_, rfl⟩, q⟩
def rMul' : R2 := rOr (rI CMul fun i j => .int (i * j)) rMulS
theorem o_mul {X : Cx} : OpR X (binaryOp .Mult) rMul' := OpR.or op_mul op_mulS
theorem s_mul [Tbl] {K : PySem.W.Frag} : OpS K rMul' dMul := by
  intro w H h x y a b d Q ok vx vy e q
  unfold dMul at e
  split at e
  · split at e
    · next c =>
      cases e
      cases vx
      cases vy
      exact .inl ⟨_, _, rfl, rfl, c, q _ _ _ (Step.refl _ _) ok (.int _)⟩
    · cases e
  · split at e
    · next c =>
      cases e
      cases vx
      cases vy
      exact .inr ⟨_, _, rfl, rfl, c, q _ _ _ (Step.refl _ _) ok (.str _)⟩
    · cases e
  · cases e
def dNeg : D → Hap → Option D := fun a _ => match a with
  | .int i => some (.int (-i))
  | _ => none
theorem s_neg [Tbl] {K : PySem.W.Frag} : UnS K (rU fun i => .int (-i)) dNeg := by
  intro w H h x a d Q ok vx e q
  unfold dNeg at e
  split at e <;> cases e
  cases vx
  exact ⟨_, rfl, q _ _ _ (Step.refl _ _) ok (.int _)⟩

/-! ### comparisons -/
mutual
def D.py : D → Option PyData
  | .non => some .none
  | .bl b => some (.bool b)
  | .int i => some (.int i)
  | .str x => some (.str x)
  | .lst xs => (D.pys xs).map .list
  | .klst xs => (D.pys xs).map .list
  | .tup xs => (D.pys xs).map .tuple
  | .ref _ => none
  | .ty _ => none
def D.pys : List D → Option (List PyData)
  | [] => some []
  | d :: ds => match d.py, D.pys ds with
    | some x, some xs => some (x :: xs)
    | _, _ => none
end
def pyOf (d : D) (h : Hap) : Option PyData := match d with
  | .ref i => match h[i]? with
    | some (.lst xs) => (D.pys xs).map .list
    | _ => none
  | d => d.py
mutual
theorem VR.dp {K : PySem.W.Frag} {w : Wd} {H : Hp} (sub : ∀ a o, w.F a = some o → H a = some o) : ∀ {x : V} {d : D} {p : PyData}, VR K w x d → d.py = some p → Dp K H x p
  | _, _, _, .non, e => by simp [D.py] at e; subst e; exact .non
  | _, _, _, .bl b, e => by simp [D.py] at e; subst e; exact .bl b
  | _, _, _, .int b, e => by simp [D.py] at e; subst e; exact .int b
  | _, _, _, .str b, e => by simp [D.py] at e; subst e; exact .str b
  | _, _, _, .ty b, e => by simp [D.py] at e
  | _, _, _, .ref b, e => by simp [D.py] at e
  | _, _, _, .lst e1 e2, e => by
    simp [D.py] at e
    obtain ⟨q, e3, rfl⟩ := e
    exact .lst (.inl (.inl (sub _ _ e1))) (VRs.dp sub e2 e3)
  | _, _, _, .klst e1 e2, e => by
    simp [D.py] at e
    obtain ⟨q, e3, rfl⟩ := e
    exact .lst (sqL_mono sub e1) (VRs.dp sub e2 e3)
  | _, _, _, .tup e1 e2, e => by
    simp [D.py] at e
    obtain ⟨q, e3, rfl⟩ := e
    exact .tup (sqT_mono sub e1) (VRs.dp sub e2 e3)
theorem VRs.dp {K : PySem.W.Frag} {w : Wd} {H : Hp} (sub : ∀ a o, w.F a = some o → H a = some o) : ∀ {x : List V} {d : List D} {p : List PyData}, VRs K w x d → D.pys d = some p → DpAll K H x p
  | _, _, _, .nil, e => by simp [D.pys] at e; subst e; exact .nil
  | _, _, _, .cons a b, e => by
    unfold D.pys at e
    split at e
    · next x xs e1 e2 =>
      cases e
      exact .cons (VR.dp sub a e1) (VRs.dp sub b e2)
    · cases e
end
theorem pyOf_ok [Tbl] {K : PySem.W.Frag} {w : Wd} {H : Hp} {h : Hap} {x : V} {d : D} {p : PyData} (ok : Ok K w H h) (r : VR K w x d) (e : pyOf d h = some p) : Dp K H x p := by
  unfold pyOf at e
  split at e
  · next i =>
    split at e
    · next xs e2 =>
      cases r
      next a e1 =>
      obtain ⟨_, o, e3, e4⟩ := ok.cel i a _ e1 e2
      cases o <;> simp [CRel] at e4
      simp at e
      obtain ⟨q, e5, rfl⟩ := e
      exact .lst (.inl (.inl e3)) (VRs.dp ok.sub e4 e5)
    · cases e
  · exact VR.dp ok.sub r e
/-- == -/
def eqO (a b : D) (h : Hap) : Option Bool := match a, b with
  | .str x, .str y => some (decide (x = y))
  | .int x, .int y => some (decide (x = y))
  | .bl x, .bl y => some (decide (x = y))
  | a, b => match pyOf a h, pyOf b h with
    | some p, some q => if SeqAt.shaped p = true ∧ SeqAt.shaped q = true then some (PyData.eqv p q) else none
    | _, _ => none
def dEq : D → D → Hap → Option D := fun a b h => (eqO a b h).map .bl
def dNe : D → D → Hap → Option D := fun a b h => (eqO a b h).map fun b => .bl (!b)
def rEq' (K : PySem.W.Frag) : R2 := rOr rEq (rEqD K)
def rNe' (K : PySem.W.Frag) : R2 := rOr rNe (rNeD K)
theorem o_eq {X : Cx} (hu : X.A.units + 64 < cLine) : OpR X (compareOp .Eq) (rEq' X.K) := OpR.or op_eq (op_eqD hu)
theorem o_ne {X : Cx} (hu : X.A.units + 64 < cLine) : OpR X (compareOp .NotEq) (rNe' X.K) := OpR.or op_ne (op_neD hu)
theorem s_eq [Tbl] {K : PySem.W.Frag} : OpS K (rEq' K) dEq := by
  intro w H h x y a b d Q ok vx vy e0 q
  obtain ⟨z, e, ez⟩ := Option.map_eq_some_iff.mp e0
  clear e0
  subst ez
  have fin : Q (.bl z) H := q _ _ _ (Step.refl _ _) ok (.bl _)
  unfold eqO at e
  split at e
  · cases e
    cases vx
    cases vy
    exact .inl ⟨rfl, by simpa using fin⟩
  · cases e
    cases vx
    cases vy
    exact .inl ⟨rfl, by simpa using fin⟩
  · cases e
    cases vx
    cases vy
    exact .inl ⟨rfl, by simpa using fin⟩
  · split at e
    · next p q' e1 e2 =>
      split at e
      · next c =>
        cases e
        exact .inr ⟨p, q', pyOf_ok ok vx e1, pyOf_ok ok vy e2, c.1, c.2, fin⟩
      · cases e
    · cases e
theorem s_ne [Tbl] {K : PySem.W.Frag} : OpS K (rNe' K) dNe := by
  intro w H h x y a b d Q ok vx vy e0 q
  obtain ⟨z, e, ez⟩ := Option.map_eq_some_iff.mp e0
  clear e0
  subst ez
  have fin : Q (.bl (!z)) H := q _ _ _ (Step.refl _ _) ok (.bl _)
  unfold eqO at e
  split at e
  · cases e
    cases vx
    cases vy
    exact .inl ⟨rfl, by simpa using fin⟩
  · cases e
    cases vx
    cases vy
    exact .inl ⟨rfl, by simpa using fin⟩
  · cases e
    cases vx
    cases vy
    exact .inl ⟨rfl, by simpa using fin⟩
  · split at e
    · next p q' e1 e2 =>
      split at e
      · next c =>
        cases e
        exact .inr ⟨p, q', pyOf_ok ok vx e1, pyOf_ok ok vy e2, c.1, c.2, fin⟩
      · cases e
    · cases e
/-- the order of ints and texts -/
def dCmp (fi : Int → Int → Bool) (fs : Str → Str → Bool) : D → D → Hap → Option D := fun a b _ => match a, b with
  | .int i, .int j => some (.bl (fi i j))
  | .str i, .str j => some (.bl (fs i j))
  | _, _ => none
def sLt (i j : Str) : Bool := decide (i.cps.toList < j.cps.toList)
def dLt := dCmp (fun i j => decide (i < j)) sLt
def dGt := dCmp (fun i j => decide (j < i)) fun i j => sLt j i
def dGe := dCmp (fun i j => decide (j ≤ i)) fun i j => !sLt i j
def rCmpS (fs : Str → Str → Bool) : R2 := fun x y H Q => ∃ i j, x = .str i ∧ y = .str j ∧ Q (.bl (fs i j)) H
theorem s_cmp [Tbl] {K : PySem.W.Frag} {fi : Int → Int → Bool} {fs : Str → Str → Bool} : OpS K (rOr (rI0 fun i j => .bl (fi i j)) (rCmpS fs)) (dCmp fi fs) := by
  intro w H h x y a b d Q ok vx vy e q
  unfold dCmp at e
  split at e
  · cases e
    cases vx
    cases vy
    exact .inl ⟨_, _, rfl, rfl, q _ _ _ (Step.refl _ _) ok (.bl _)⟩
  · cases e
    cases vx
    cases vy
    exact .inr ⟨_, _, rfl, rfl, q _ _ _ (Step.refl _ _) ok (.bl _)⟩
  · cases e
theorem o_lt {X : Cx} : OpR X (compareOp .Lt) (rOr (rI0 fun i j => .bl (decide (i < j))) (rCmpS sLt)) := OpR.or op_lt op_lt_str
theorem o_gt {X : Cx} : OpR X (compareOp .Gt) (rOr (rI0 fun i j => .bl (decide (j < i))) (rCmpS fun i j => sLt j i)) := OpR.or op_gt op_gt_str
theorem o_ge {X : Cx} : OpR X (compareOp .GtE) (rOr (rI0 fun i j => .bl (decide (j ≤ i))) (rCmpS fun i j => !sLt i j)) := OpR.or op_ge op_ge_str
def isN : D → Bool
  | .non => true
  | _ => false
def dIs : D → D → Hap → Option D := fun a b _ => match b with
  | .non => some (.bl (isN a))
  | _ => none
def dIsNot : D → D → Hap → Option D := fun a b _ => match b with
  | .non => some (.bl (!isN a))
  | _ => none
theorem isN_ok {K : PySem.W.Frag} {w : Wd} {x : V} {a : D} (r : VR K w x a) : decide (x = .non) = isN a := by cases r <;> simp [isN]
theorem s_is [Tbl] {K : PySem.W.Frag} : OpS K (fun x y H Q => y = .non ∧ Q (.bl (decide (x = .non))) H) dIs := by
  intro w H h x y a b d Q ok vx vy e q
  unfold dIs at e
  split at e <;> cases e
  cases vy
  exact ⟨rfl, by rw [isN_ok vx]; exact q _ _ _ (Step.refl _ _) ok (.bl _)⟩
theorem s_isNot [Tbl] {K : PySem.W.Frag} : OpS K (fun x y H Q => y = .non ∧ Q (.bl (!decide (x = .non))) H) dIsNot := by
  intro w H h x y a b d Q ok vx vy e q
  unfold dIsNot at e
  split at e <;> cases e
  cases vy
  exact ⟨rfl, by rw [isN_ok vx]; exact q _ _ _ (Step.refl _ _) ok (.bl _)⟩
/-- in: a text in a text, flat data in a list or tuple -/
def D.fl : D → Option V
  | .non => some .non
  | .bl b => some (.bl b)
  | .int i => some (.int i)
  | .str x => some (.str x)
  | _ => none
def fls : List D → Option (List V)
  | [] => some []
  | d :: ds => match d.fl, fls ds with
    | some x, some xs => some (x :: xs)
    | _, _ => none
theorem fl_ok {K : PySem.W.Frag} {w : Wd} {x v : V} {a : D} (r : VR K w x a) (e : a.fl = some v) : x = v ∧ flatV x = true := by
  cases r <;> simp [D.fl] at e <;> subst e <;> exact ⟨rfl, rfl⟩
theorem fls_ok {K : PySem.W.Frag} {w : Wd} : ∀ {x v : List V} {a : List D}, VRs K w x a → fls a = some v → x = v ∧ x.all flatV = true
  | _, _, _, .nil, e => by simp [fls] at e; subst e; exact ⟨rfl, rfl⟩
  | _, _, _, .cons a b, e => by
    unfold fls at e
    split at e
    · next y ys e1 e2 =>
      cases e
      obtain ⟨q1, q2⟩ := fl_ok a e1
      obtain ⟨q3, q4⟩ := fls_ok b e2
      exact ⟨by rw [q1, q3], by rw [List.all_cons, q2, q4]; rfl⟩
    · cases e
def inO (a b : D) (h : Hap) : Option Bool := match a, b with
  | .str x, .str z => if x.cps.size = 1 then some (decide (x.cps[0]! ∈ z.cps.toList)) else some (!(Builtin.Str.occurrences z x 0 z.length 1).isEmpty)
  | a, b => match a.fl, (getQ b h).bind fls with
    | some x, some xs => some (inV x xs)
    | _, _ => none
def dIn : D → D → Hap → Option D := fun a b h => (inO a b h).map .bl
def dNotIn : D → D → Hap → Option D := fun a b h => (inO a b h).map fun b => .bl (!b)
def rInSign (n : Bool) : R2 := fun x y H Q => ∃ (c : Nat) (z : Str), x = .str ⟨#[c]⟩ ∧ y = .str z ∧ Q (.bl (if n then !decide (c ∈ z.cps.toList) else decide (c ∈ z.cps.toList))) H
def rInStr (n : Bool) : R2 := fun x y H Q => ∃ i j, x = .str i ∧ y = .str j ∧ Q (.bl (if n then !(!(Builtin.Str.occurrences j i 0 j.length 1).isEmpty) else !(Builtin.Str.occurrences j i 0 j.length 1).isEmpty)) H
def rIn' (K : PySem.W.Frag) (n : Bool) : R2 := rOr (rInSign n) (rOr (rInStr n) (rIn K n))
theorem o_in {X : Cx} : OpR X (compareOp .In) (rIn' X.K false) := OpR.or op_in_sign (OpR.or op_in_str op_in_seq)
theorem o_notIn {X : Cx} : OpR X (compareOp .NotIn) (rIn' X.K true) := OpR.or op_notIn_sign (OpR.or op_notIn_str op_notIn_seq)
theorem in_core [Tbl] {K : PySem.W.Frag} {n : Bool} {w : Wd} {H : Hp} {h : Hap} {x y : V} {a b : D} {z : Bool} {Q : VK} (ok : Ok K w H h) (vx : VR K w x a) (vy : VR K w y b) (e : inO a b h = some z) (q : Q (.bl (if n then !z else z)) H) : rIn' K n x y H Q := by
  unfold inO at e
  split at e
  · next i j =>
    cases vx
    cases vy
    split at e
    · next hs =>
      cases e
      obtain ⟨cs⟩ := i
      have hs' : cs.size = 1 := hs
      have ec : cs = #[cs[0]!] := by
        apply Array.ext
        · simp [hs']
        · intro k hk1 hk2
          have : k = 0 := by omega
          subst this
          simp [hk1]
      refine .inl ⟨cs[0]!, j, ?_, rfl, q⟩
      rw [← ec]
    · cases e
      exact .inr (.inl ⟨_, _, rfl, rfl, q⟩)
  · split at e
    · next x' xs e1 e2 =>
      cases e
      cases e3 : getQ b h with
      | none => rw [e3] at e2; cases e2
      | some ds =>
        rw [e3] at e2
        obtain ⟨p, vs, rfl, h1, r1⟩ := getQ_ok ok vy e3
        obtain ⟨q1, q2⟩ := fl_ok vx e1
        obtain ⟨q3, q4⟩ := fls_ok r1 e2
        exact .inr (.inr ⟨p, vs, rfl, h1, q2, q4, by rw [q1, q3]; exact q⟩)
    · cases e
theorem s_in [Tbl] {K : PySem.W.Frag} : OpS K (rIn' K false) dIn := by
  intro w H h x y a b d Q ok vx vy e0 q
  obtain ⟨z, e, ez⟩ := Option.map_eq_some_iff.mp e0
  clear e0
  subst ez
  exact in_core ok vx vy e (q _ _ _ (Step.refl _ _) ok (.bl _))
theorem s_notIn [Tbl] {K : PySem.W.Frag} : OpS K (rIn' K true) dNotIn := by
  intro w H h x y a b d Q ok vx vy e0 q
  obtain ⟨z, e, ez⟩ := Option.map_eq_some_iff.mp e0
  clear e0
  subst ez
  exact in_core ok vx vy e (q _ _ _ (Step.refl _ _) ok (.bl _))

/-! ### subscripts, slices -/
def dIx : D → D → Hap → Option D := fun a b h => match b with
  | .int i => match a with
    | .str z => if z.length ≤ sizeLine then (atI z.cps.toList i).map fun c => .str (ch c) else none
    | a => (getQ a h).bind fun xs => atI xs i
  | _ => none
theorem atI_vr {K : PySem.W.Frag} {w : Wd} {vs : List V} {ds : List D} {i : Int} {d : D} (r : VRs K w vs ds) (e : atI ds i = some d) : ∃ v, atI vs i = some v ∧ VR K w v d := by
  unfold atI at e ⊢
  rw [← r.length] at e
  cases q : ixN vs.length i with
  | none => rw [q] at e; cases e
  | some j =>
    rw [q] at e
    exact r.get' e
theorem s_ix [Tbl] {K : PySem.W.Frag} : OpS K (rIx K) dIx := by
  intro w H h x y a b d Q ok vx vy e q
  unfold dIx at e
  split at e
  · next i =>
    cases vy
    split at e
    · next z =>
      cases vx
      split at e
      · next hl =>
        obtain ⟨c, e1, rfl⟩ := Option.map_eq_some_iff.mp e
        exact .inr (.inr ⟨_, _, c, rfl, rfl, hl, e1, q _ _ _ (Step.refl _ _) ok (.str _)⟩)
      · cases e
    · cases e3 : getQ a h with
      | none => rw [e3] at e; cases e
      | some ds =>
        rw [e3] at e
        obtain ⟨p, vs, rfl, h1, r1⟩ := getQ_ok ok vx e3
        obtain ⟨v, e4, r2⟩ := atI_vr r1 e
        have fin := q v w H (Step.refl _ _) ok r2
        rcases h1 with h1 | h1
        · exact .inl ⟨p, vs, i, v, rfl, rfl, h1, e4, fin⟩
        · exact .inr (.inl ⟨p, vs, i, v, rfl, rfl, h1, e4, fin⟩)
  · cases e
theorem e_ix [Tbl] {X : Cx} {W : WX} {a b : Expr} {ma mb : ME} {pos : Pos} (ha : PE X a (tE X.K X.mg W ma)) (hb : PE X b (tE X.K X.mg W mb)) (hs : PlainIx b) : PE X (.Subscript a b pos) (tE X.K X.mg W (mBin dIx ma mb)) := PE.imp (pe_ix ix_seq ha hb hs) (t_bin s_ix)
abbrev MO := Env → Hap → Rs (Option Int)
def tO [Tbl] (K : PySem.W.Frag) (gm : Str → Option Value) (W : WX) (m : MO) : TO := fun σ H Q => ∃ w env h, Ok K w H h ∧ EnvR K w σ env ∧ Post K gm (fun _ v b => v = b) w H (m env h) Q fun c d H' => W c d σ H'
def mNoP : MO := fun _ h => .ok none h
def oI : D → Option (Option Int)
  | .int i => some (some i)
  | _ => none
def mPart (a : ME) : MO := fun env h => (a env h).bind fun x h1 => ofO (oI x) h1
theorem PO.imp {X : Cx} {e : Option Expr} {t t' : TO} (p : PO X e t) (i : ∀ σ H Q, t' σ H Q → t σ H Q) : PO X e t' := ⟨fun pins s σ H Q I h => p.run pins s σ H Q I (i _ _ _ h)⟩
section
variable {X : Cx} {W : WX}
theorem o_none [Tbl] : PO X none (tO X.K X.mg W mNoP) := PO.imp po_none fun σ H Q ⟨w, env, h, ok, er, p⟩ => p.ok ok rfl
theorem o_some [Tbl] {e : Expr} {m : ME} (he : PE X e (tE X.K X.mg W m)) : PO X (some e) (tO X.K X.mg W (mPart m)) := PO.imp (po_some he) fun σ H Q ⟨w, env, h, ok, er, p⟩ =>
  ⟨w, env, h, ok, er, Post.bind p fun x da w1 H1 h1 s1 ok1 v1 p1 => by
    obtain ⟨d, e, q⟩ := ofO_post p1
    cases da <;> simp [oI] at e
    subst e
    cases v1
    exact ⟨_, rfl, q _ w1 H1 (Step.refl _ _) ok1 rfl⟩⟩
end
def cutX {α : Type} (xs : List α) (lo hi : Option Int) : List α := (xs.drop (HT.sIx xs.length 0 lo)).take (HT.sIx xs.length xs.length hi - HT.sIx xs.length 0 lo)
def dSl (a : D) (lo hi : Option Int) (h : Hap) : Option D := match a with
  | .str z => if z.length ≤ sizeLine then some (.str (cutS z lo hi)) else none
  | .tup xs => some (.tup (cutX xs lo hi))
  | a => (getL a h).map fun xs => .lst (cutX xs lo hi)
def rSl' (K : PySem.W.Frag) : V → Option Int → Option Int → Hp → VK → Prop := fun x lo hi H Q => rSlS x lo hi H Q ∨ rSlL K x lo hi H Q ∨ rSlA K x lo hi H Q
theorem sl_any {X : Cx} : SlR X (rSl' X.K) := fun pins s σ H x v vl vu lo hi sl Q I r1 r2 r3 r4 z => by
  rcases z with z | z | z
  · exact sl_str pins s σ H x v vl vu lo hi sl Q I r1 r2 r3 r4 z
  · exact sl_list pins s σ H x v vl vu lo hi sl Q I r1 r2 r3 r4 z
  · exact sl_tupA pins s σ H x v vl vu lo hi sl Q I r1 r2 r3 r4 z
theorem cutX_V {K : PySem.W.Frag} {w : Wd} {vs : List V} {ds : List D} (r : VRs K w vs ds) (lo hi : Option Int) : VRs K w (cutV vs lo hi) (cutX ds lo hi) := by
  unfold cutV cutX
  rw [r.length]
  exact (r.drop _).take _
def mSl (a : ME) (lo hi : MO) : ME := fun env h => (a env h).bind fun x h1 => (lo env h1).bind fun l h2 => (hi env h2).bind fun u h3 => ofO (dSl x l u h3) h3
theorem e_sl [Tbl] {X : Cx} {W : WX} {e : Expr} {lo hi : Option Expr} {p2 pos : Pos} {ma : ME} {ml mh : MO} (ha : PE X e (tE X.K X.mg W ma)) (hl : PO X lo (tO X.K X.mg W ml)) (hh : PO X hi (tO X.K X.mg W mh)) : PE X (.Subscript e (.Slice lo hi none p2) pos) (tE X.K X.mg W (mSl ma ml mh)) :=
  PE.imp (pe_slice sl_any ha hl hh) fun σ H Q ⟨w, env, h, ok, er, p⟩ => ⟨w, env, h, ok, er, Post.bind p fun x a w1 H1 h1 s1 ok1 v1 p1 =>
    ⟨w1, env, h1, ok1, er.mono s1, Post.bind p1 fun l l' w2 H2 h2 s2 ok2 v2 p2 => by
      subst v2
      refine ⟨w2, env, h2, ok2, (er.mono s1).mono s2, Post.bind p2 fun u u' w3 H3 h3 s3 ok3 v3 p3 => ?_⟩
      subst v3
      obtain ⟨d, e, q⟩ := ofO_post p3
      have vx := (v1.mono s2).mono s3
      unfold dSl at e
      split at e
      · cases vx
        split at e
        · next hl => cases e; exact .inl ⟨_, rfl, hl, q _ _ _ (Step.refl _ _) ok3 (.str _)⟩
        · cases e
      · next xs =>
        cases e
        obtain ⟨p, vs, rfl, h1, r1⟩ := getT_ok ok3 vx rfl
        refine .inr (.inr ⟨p, vs, rfl, h1, fun z => ?_, fun z a ha => ?_⟩)
        · refine q _ _ _ (Step.refl _ _) ok3 ?_
          have e : cutX xs l u = xs := by
            unfold cutX
            rw [r1.length] at z
            rw [z.1, z.2]
            simp
          rw [e]
          exact vx
        · exact q _ _ _ (ok3.alloc ha).2 (ok3.alloc ha).1 (vr_tup ok3 ha (cutX_V r1 l u))
      · obtain ⟨xs, e1, e2⟩ := Option.map_eq_some_iff.mp e
        subst e2
        obtain ⟨p, vs, rfl, h1, r1⟩ := getL_ok ok3 vx e1
        exact .inr (.inl ⟨p, vs, rfl, h1, fun a ha => q _ _ _ (ok3.alloc ha).2 (ok3.alloc ha).1 (vr_lst ok3 ha (cutX_V r1 l u))⟩)⟩⟩
end
end Vi

set_option Elab.async false
set_option linter.all false
set_option autoImplicit false
set_option maxRecDepth 100000
set_option maxHeartbeats 2000000
namespace Vi
open PySem PySem.Spec PyProof.Rows L2
variable {gm : Str → Option Value}
open scoped Classical
noncomputable section

/-! ### calls of built-ins -/
def CallS [Tbl] (K : PySem.W.Frag) (r : List V → Hp → VK → Prop) (g : List D → Hap → Option D) : Prop := ∀ (w : Wd) (H : Hp) (h : Hap) (xs : List V) (ds : List D) (d : D) (Q : VK), Ok K w H h → VRs K w xs ds → g ds h = some d →
  (∀ v w' H', Step w H w' H' → Ok K w' H' h → VR K w' v d → Q v H') → r xs H Q
def mCB (g : List D → Hap → Option D) (a : MA) : ME := fun env h => (a env h).bind fun xs h1 => ofO (g xs h1) h1
theorem t_cb [Tbl] {K : PySem.W.Frag} {W : WX} {r : List V → Hp → VK → Prop} {g : List D → Hap → Option D} {a : MA} (s : CallS K r g) : ∀ σ H Q, tE K gm W (mCB g a) σ H Q → tCB r (tA K gm W a) σ H Q := fun σ H Q ⟨w, env, h, ok, er, p⟩ =>
  ⟨w, env, h, ok, er, Post.bind p fun x da w1 H1 h1 s1 ok1 v1 p1 => by
    obtain ⟨d, e, q⟩ := ofO_post p1
    exact s w1 H1 h1 x da d Q ok1 v1 e q⟩
section
variable {X : Cx} {W : WX} {x : Str} {p pos : Pos} {e : Expr} {es : List Expr} {m : MA} {id : String} {r : List V → Hp → VK → Prop} {g : List D → Hap → Option D}
theorem e_cb [Tbl] (hc : CallR X (.builtin id) r) (s : CallS X.K r g) (hg : Gl X x) (hm : X.mg x = none) (hv : bootBuiltins x = some (.builtin id)) (ha : PA X (e :: es) (tA X.K X.mg W m)) (hn : x ≠ "__name__" := by decide) (hdb : (x == ("__debug__" : Str)) = false := by decide)
    (he : starEach (e :: es) X.env = (false, eval e X.env) :: starEach es X.env := by rfl) (hpl : (backTo pos (starEach es X.env)).any (·.1) = false := by rfl) : PE X (.Call (.Name x p) (e :: es) [] pos) (tE X.K X.mg W (mCB g m)) := PE.imp (pe_callB hc hg hm hv ha hn hdb he hpl) (t_cb s)
theorem e_cty [Tbl] (hc : CallR X (.type id) r) (s : CallS X.K r g) (hg : Gl X x) (hm : X.mg x = none) (hv : bootBuiltins x = some (.type id)) (ha : PA X (e :: es) (tA X.K X.mg W m)) (hn : x ≠ "__name__" := by decide) (hdb : (x == ("__debug__" : Str)) = false := by decide)
    (he : starEach (e :: es) X.env = (false, eval e X.env) :: starEach es X.env := by rfl) (hpl : (backTo pos (starEach es X.env)).any (·.1) = false := by rfl) : PE X (.Call (.Name x p) (e :: es) [] pos) (tE X.K X.mg W (mCB g m)) := PE.imp (pe_callTy hc hg hm hv ha hn hdb he hpl) (t_cb s)
end
theorem vrs1 {K : PySem.W.Frag} {w : Wd} {xs : List V} {d : D} (r : VRs K w xs [d]) : ∃ x, xs = [x] ∧ VR K w x d := by
  cases r with
  | cons a b => cases b; exact ⟨_, rfl, a⟩
theorem vrs2 {K : PySem.W.Frag} {w : Wd} {xs : List V} {d e : D} (r : VRs K w xs [d, e]) : ∃ x y, xs = [x, y] ∧ VR K w x d ∧ VR K w y e := by
  cases r with
  | cons a b =>
    obtain ⟨y, rfl, q⟩ := vrs1 b
    exact ⟨_, y, rfl, a, q⟩
def dLen : List D → Hap → Option D := fun ds h => match ds with
  | [.str z] => if z.length ≤ sizeLine then some (.int z.length) else none
  | [d] => (getQ d h).map fun xs => .int xs.length
  | _ => none
theorem s_len [Tbl] {K : PySem.W.Frag} : CallS K (fun xs H Q => ∃ x n, xs = [x] ∧ LenV K x H n ∧ Q (.int n) H) dLen := by
  intro w H h xs ds d Q ok vr e q
  unfold dLen at e
  split at e
  · obtain ⟨x, rfl, r⟩ := vrs1 vr
    cases r
    split at e
    · next hl => cases e; exact ⟨_, _, rfl, ⟨hl, rfl⟩, q _ _ _ (Step.refl _ _) ok (.int _)⟩
    · cases e
  · obtain ⟨x, rfl, r⟩ := vrs1 vr
    obtain ⟨xs, e1, e2⟩ := Option.map_eq_some_iff.mp e
    subst e2
    obtain ⟨p, vs, rfl, h1, r1⟩ := getQ_ok ok r e1
    refine ⟨_, vs.length, rfl, ?_, by rw [r1.length]; exact q _ _ _ (Step.refl _ _) ok (.int _)⟩
    rcases h1 with h1 | h1
    · exact .inl ⟨vs, h1, rfl⟩
    · exact .inr ⟨vs, h1, rfl⟩
  · cases e
theorem s_intInt [Tbl] {K : PySem.W.Frag} {f : Int → Int} {g : List D → Hap → Option D} (hg : ∀ ds h d, g ds h = some d → ∃ i, ds = [.int i] ∧ d = .int (f i)) : CallS K (fun xs H Q => ∃ i, xs = [.int i] ∧ Q (.int (f i)) H) g := by
  intro w H h xs ds d Q ok vr e q
  obtain ⟨i, rfl, rfl⟩ := hg _ _ _ e
  obtain ⟨x, rfl, r⟩ := vrs1 vr
  cases r
  exact ⟨i, rfl, q _ _ _ (Step.refl _ _) ok (.int _)⟩
def dAbs : List D → Hap → Option D := fun ds _ => match ds with
  | [.int i] => some (.int (if i < 0 then -i else i))
  | _ => none
theorem s_abs [Tbl] {K : PySem.W.Frag} : CallS K (fun xs H Q => ∃ i, xs = [.int i] ∧ Q (.int (if i < 0 then -i else i)) H) dAbs := s_intInt fun ds h d e => by
  unfold dAbs at e
  split at e <;> cases e
  exact ⟨_, rfl, rfl⟩
/-- int(..) of an int, a bool -/
def dInt : List D → Hap → Option D := fun ds _ => match ds with
  | [.int i] => some (.int i)
  | [.bl b] => some (.int (if b then 1 else 0))
  | _ => none
theorem s_int [Tbl] {K : PySem.W.Frag} : CallS K (fun xs H Q => (∃ i, xs = [.int i] ∧ Q (.int i) H) ∨ ∃ k, xs = [.bl k] ∧ Q (.int (if k then 1 else 0)) H) dInt := by
  intro w H h xs ds d Q ok vr e q
  unfold dInt at e
  split at e <;> cases e
  · obtain ⟨x, rfl, r⟩ := vrs1 vr
    cases r
    exact .inl ⟨_, rfl, q _ _ _ (Step.refl _ _) ok (.int _)⟩
  · obtain ⟨x, rfl, r⟩ := vrs1 vr
    cases r
    exact .inr ⟨_, rfl, q _ _ _ (Step.refl _ _) ok (.int _)⟩
def blsOf : List D → Option (List Bool)
  | [] => some []
  | .bl b :: ds => (blsOf ds).map (b :: ·)
  | _ => none
theorem blsOf_ok {K : PySem.W.Frag} {w : Wd} : ∀ {v : List V} {ds : List D} {bs : List Bool}, VRs K w v ds → blsOf ds = some bs → v = bs.map V.bl
  | _, [], bs, .nil, e => by simp [blsOf] at e; subst e; rfl
  | _, .bl b :: ds, bs, .cons (.bl _) t, e => by
    simp [blsOf] at e
    obtain ⟨c, e1, rfl⟩ := e
    rw [blsOf_ok t e1]
    rfl
  | _, .non :: _, _, _, e => by simp [blsOf] at e
  | _, .int _ :: _, _, _, e => by simp [blsOf] at e
  | _, .str _ :: _, _, _, e => by simp [blsOf] at e
  | _, .lst _ :: _, _, _, e => by simp [blsOf] at e
  | _, .klst _ :: _, _, _, e => by simp [blsOf] at e
  | _, .tup _ :: _, _, _, e => by simp [blsOf] at e
  | _, .ref _ :: _, _, _, e => by simp [blsOf] at e
  | _, .ty _ :: _, _, _, e => by simp [blsOf] at e
def dAny : List D → Hap → Option D := fun ds h => match ds with
  | [d] => ((getL d h).bind blsOf).map fun bs => .bl (bs.any id)
  | _ => none
theorem s_any [Tbl] {K : PySem.W.Frag} : CallS K (rAny K) dAny := by
  intro w H h xs ds d Q ok vr e q
  unfold dAny at e
  split at e
  · next d0 =>
    obtain ⟨x, rfl, r⟩ := vrs1 vr
    obtain ⟨bs, e1, e2⟩ := Option.map_eq_some_iff.mp e
    subst e2
    obtain ⟨ds, e2, e3⟩ := Option.bind_eq_some_iff.mp e1
    obtain ⟨p, vs, rfl, h1, r1⟩ := getL_ok ok r e2
    have q2 := blsOf_ok r1 e3
    subst q2
    exact ⟨p, bs, rfl, h1, q _ _ _ (Step.refl _ _) ok (.bl _)⟩
  · cases e
/-- isinstance with a written built-in class -/
def tyD (d : D) (h : Hap) : Option String := match d with
  | .non => some "NoneType"
  | .bl _ => some "bool"
  | .int _ => some "int"
  | .str _ => some "str"
  | .lst _ => some "list"
  | .klst _ => some "list"
  | .tup _ => some "tuple"
  | .ref i => match h[i]? with
    | some (.lst _) => some "list"
    | some (.dct _) => some "dict"
    | _ => none
  | .ty _ => none
theorem tyX_ok [Tbl] {K : PySem.W.Frag} {w : Wd} {H : Hp} {h : Hap} {x : V} {d : D} {n : String} (ok : Ok K w H h) (r : VR K w x d) (e : tyD d h = some n) : TyX K H x (.type n) := by
  cases r <;> simp [tyD] at e
  case non => subst e; exact .base .non
  case bl b => subst e; exact .base (.bl b)
  case int b => subst e; exact .base (.int b)
  case str b => subst e; exact .base (.str b)
  case lst a vs ds e1 e2 => subst e; exact .base (.lst (ok.sub _ _ e1))
  case klst a vs ds e1 e2 =>
    subst e
    rcases sqL_mono ok.sub e1 with (z | ⟨o, z⟩) | ⟨o, its, n, z, z2, _⟩
    · exact .base (.lst z)
    · exact .base (.frz z)
    · exact .kList z z2
  case tup a vs ds e1 e2 =>
    subst e
    rcases sqT_mono ok.sub e1 with (z | ⟨o, z⟩) | ⟨o, its, n, z, z2, _⟩
    · exact .base (.tup z)
    · exact .fTuple z
    · exact .kTuple z z2
  case ref a i e1 =>
    split at e
    · next xs e2 =>
      cases e
      obtain ⟨_, o, e3, e4⟩ := ok.cel i a _ e1 e2
      cases o <;> simp [CRel] at e4
      exact .base (.lst e3)
    · next xs e2 =>
      cases e
      obtain ⟨_, o, e3, e4⟩ := ok.cel i a _ e1 e2
      cases o <;> simp [CRel] at e4
      exact .base (.dK e3)
    · cases e
def isiB (a b : String) : Bool := decide (a = b) || (decide (a = "bool") && decide (b = "int"))
def tyNs : List String := ["NoneType", "bool", "int", "str", "list", "tuple", "dict"]
def clNs : List String := ["bool", "int", "str", "list", "tuple", "dict"]
theorem isi_tab : ∀ a ∈ tyNs, ∀ b ∈ clNs, kitB a b = some (isiB a b) := by decide +kernel
def dIsi : List D → Hap → Option D := fun ds h => match ds with
  | [d, .ty n] => if n ∈ clNs then (tyD d h).map fun t => .bl (isiB t n) else none
  | _ => none
theorem tyD_in {d : D} {h : Hap} {n : String} (e : tyD d h = some n) : n ∈ tyNs := by
  unfold tyD at e
  split at e <;> (try split at e) <;> simp [tyNs] at e ⊢ <;> simp [← e]
theorem s_isi [Tbl] {K : PySem.W.Frag} : CallS K (rIsi K) dIsi := by
  intro w H h xs ds d Q ok vr e q
  unfold dIsi at e
  split at e
  · next d0 n =>
    obtain ⟨x, y, rfl, r1, r2⟩ := vrs2 vr
    cases r2
    split at e
    · next hn =>
      obtain ⟨t, e1, e2⟩ := Option.map_eq_some_iff.mp e
      subst e2
      exact ⟨x, .ty n, .type t, .type n, _, rfl, .ty n, tyX_ok ok r1 e1, kit_ty (isi_tab t (tyD_in e1) n hn), q _ _ _ (Step.refl _ _) ok (.bl _)⟩
    · cases e
  · cases e
/-- tuple(..), list(..) of a list or tuple -/
def dTupleOf : List D → Hap → Option D := fun ds h => match ds with
  | [d] => (getQ d h).map .tup
  | _ => none
theorem s_tupleOf [Tbl] {K : PySem.W.Frag} : CallS K (fun xs H Q => ∃ p ys, xs = [.ref p] ∧ ((SqL K H p ys ∧ ∀ l, H l = none → Q (.ref l) (upd H l (.tup ys))) ∨ (SqT K H p ys ∧ Q (.ref p) H))) dTupleOf := by
  intro w H h xs ds d Q ok vr e q
  unfold dTupleOf at e
  split at e
  · next d0 =>
    obtain ⟨x, rfl, r⟩ := vrs1 vr
    obtain ⟨ys, e1, e2⟩ := Option.map_eq_some_iff.mp e
    subst e2
    unfold getQ at e1
    split at e1
    · cases e1
      obtain ⟨p, vs, rfl, h1, r1⟩ := getT_ok ok r rfl
      exact ⟨p, vs, rfl, .inr ⟨h1, q _ _ _ (Step.refl _ _) ok r⟩⟩
    · obtain ⟨p, vs, rfl, h1, r1⟩ := getL_ok ok r e1
      exact ⟨p, vs, rfl, .inl ⟨h1, fun l hl => q _ _ _ (ok.alloc hl).2 (ok.alloc hl).1 (vr_tup ok hl r1)⟩⟩
  · cases e
def dListOf : List D → Hap → Option D := fun ds h => match ds with
  | [d] => (getQ d h).map .lst
  | _ => none
theorem s_listOf [Tbl] {K : PySem.W.Frag} : CallS K (fun xs H Q => ∃ p ys, xs = [.ref p] ∧ (SqL K H p ys ∨ SqT K H p ys) ∧ ∀ l, H l = none → Q (.ref l) (upd H l (.lst ys))) dListOf := by
  intro w H h xs ds d Q ok vr e q
  unfold dListOf at e
  split at e
  · next d0 =>
    obtain ⟨x, rfl, r⟩ := vrs1 vr
    obtain ⟨ys, e1, e2⟩ := Option.map_eq_some_iff.mp e
    subst e2
    obtain ⟨p, vs, rfl, h1, r1⟩ := getQ_ok ok r e1
    exact ⟨p, vs, rfl, h1, fun l hl => q _ _ _ (ok.alloc hl).2 (ok.alloc hl).1 (vr_lst ok hl r1)⟩
  · cases e

/-! ### methods of built-in types -/
def isT (T : String) (d : D) (h : Hap) : Bool := match d with
  | .str _ => T == "str"
  | .int _ => T == "int"
  | .lst _ => T == "list"
  | .klst _ => T == "list"
  | .ref i => match h[i]? with
    | some (.lst _) => T == "list"
    | some (.dct _) => T == "dict"
    | _ => false
  | _ => false
theorem isT_ok [Tbl] {K : PySem.W.Frag} {w : Wd} {H : Hp} {h : Hap} {T : String} {x : V} {d : D} (ok : Ok K w H h) (r : VR K w x d) (e : isT T d h = true) : tyV K T x H := by
  cases r <;> simp [isT] at e
  case int i => exact e
  case str i => exact e
  case lst a vs ds e1 e2 => exact .inl ⟨e, vs, .inl (.inl (ok.sub _ _ e1))⟩
  case klst a vs ds e1 e2 => exact .inl ⟨e, vs, sqL_mono ok.sub e1⟩
  case ref a i e1 =>
    split at e
    · next xs e2 =>
      obtain ⟨_, o, e3, e4⟩ := ok.cel i a _ e1 e2
      cases o <;> simp [CRel] at e4
      exact .inl ⟨by simpa using e, _, .inl (.inl e3)⟩
    · next xs e2 =>
      obtain ⟨_, o, e3, e4⟩ := ok.cel i a _ e1 e2
      cases o <;> simp [CRel] at e4
      exact .inr (.inr (.inl ⟨by simpa using e, .inl ⟨_, e3⟩⟩))
    · cases e
/-- what a method does: it may change the cells -/
def MetS [Tbl] (K : PySem.W.Frag) (gm : Str → Option Value) (r : V → List V → Hp → VK → Prop) (g : D → List D → Hap → Rs D) : Prop := ∀ (w : Wd) (H : Hp) (h : Hap) (x : V) (xs : List V) (a : D) (ds : List D) (Q : VK) (E : XK), Ok K w H h → VR K w x a → VRs K w xs ds →
  Post K gm (VR K) w H (g a ds h) Q E → r x xs H Q
def mMet (T : String) (g : D → List D → Hap → Rs D) (o : ME) (a : MA) : ME := fun env h => (o env h).bind fun x h1 => if isT T x h1 = true then (a env h1).bind fun xs h2 => g x xs h2 else .stuck
theorem t_met [Tbl] {K : PySem.W.Frag} {W : WX} {T : String} {r : V → List V → Hp → VK → Prop} {g : D → List D → Hap → Rs D} {o : ME} {a : MA} (s : MetS K gm r g) : ∀ σ H Q, tE K gm W (mMet T g o a) σ H Q → tBM K T r (tE K gm W o) (tA K gm W a) σ H Q := fun σ H Q ⟨w, env, h, ok, er, p⟩ =>
  ⟨w, env, h, ok, er, Post.bind p fun x da w1 H1 h1 s1 ok1 v1 p1 => by
    by_cases c : isT T da h1 = true
    · rw [if_pos c] at p1
      exact ⟨isT_ok ok1 v1 c, w1, env, h1, ok1, er.mono s1, Post.bind p1 fun xs ds w2 H2 h2 s2 ok2 v2 p2 => s w2 H2 h2 x xs da ds Q _ ok2 (v1.mono s2) v2 p2⟩
    · rw [if_neg c] at p1
      exact p1.elim⟩
theorem t_met0 [Tbl] {K : PySem.W.Frag} {W : WX} {T : String} {r : V → List V → Hp → VK → Prop} {g : D → List D → Hap → Rs D} {o : ME} (s : MetS K gm r g) : ∀ σ H Q, tE K gm W (mMet T g o mNil) σ H Q → tBM0 K T r (tE K gm W o) σ H Q := fun σ H Q ⟨w, env, h, ok, er, p⟩ =>
  ⟨w, env, h, ok, er, Post.bind p fun x da w1 H1 h1 s1 ok1 v1 p1 => by
    by_cases c : isT T da h1 = true
    · rw [if_pos c] at p1
      exact ⟨isT_ok ok1 v1 c, s w1 H1 h1 x [] da [] Q _ ok1 v1 .nil p1⟩
    · rw [if_neg c] at p1
      exact p1.elim⟩
section
variable {X : Cx} {W : WX} {T id : String} {name : Str} {apos cpos : Pos} {o e : Expr} {es : List Expr} {r : V → List V → Hp → VK → Prop} {g : D → List D → Hap → Rs D} {mo : ME} {ma : MA}
theorem e_met [Tbl] (pa : PlainAttrs T) (slot : Slot T name id) (hty : typeOf (.builtin id) = pure (.type "method_descriptor")) (hm : MtR X id r) (s : MetS X.K X.mg r g) (ho : PE X o (tE X.K X.mg W mo)) (ha : PA X (e :: es) (tA X.K X.mg W ma))
    (hbase : attributeBase o name X.env (eval o X.env) = eval o X.env := by rfl)
    (hfew : ((backTo cpos (starEach (e :: es) X.env)).all (fun x => !x.1) && (backToKw cpos (keywordEach [] X.env)).all (fun x => x.1.isSome)
      && decide ((e :: es).length + ([] : List Keyword).length + (if ([] : List Keyword).isEmpty then 0 else 1) < 30)) = true := by rfl)
    (hline : (apos.endLine == cpos.line) = true := by rfl) (hs : starEach (e :: es) X.env = (false, eval e X.env) :: starEach es X.env := by rfl) (hplain : (backTo cpos (starEach es X.env)).any (·.1) = false := by rfl) :
    PE X (.Call (.Attribute o name apos) (e :: es) [] cpos) (tE X.K X.mg W (mMet T g mo ma)) := PE.imp (pe_bm pa slot hty hm ho ha hbase hfew hline hs hplain) (t_met s)
theorem e_met0 [Tbl] (pa : PlainAttrs T) (slot : Slot T name id) (hty : typeOf (.builtin id) = pure (.type "method_descriptor")) (hm : MtR X id r) (s : MetS X.K X.mg r g) (ho : PE X o (tE X.K X.mg W mo))
    (hbase : attributeBase o name X.env (eval o X.env) = eval o X.env := by rfl) (hline : (apos.endLine == cpos.line) = true := by rfl) : PE X (.Call (.Attribute o name apos) [] [] cpos) (tE X.K X.mg W (mMet T g mo mNil)) := PE.imp (pe_bm0 pa slot hty hm ho hbase hline) (t_met0 s)
end
/-- methods that leave the cells -/
def gP (f : D → List D → Hap → Option D) : D → List D → Hap → Rs D := fun a ds h => ofO (f a ds h) h
def PMetS [Tbl] (K : PySem.W.Frag) (r : V → List V → Hp → VK → Prop) (f : D → List D → Hap → Option D) : Prop := ∀ (w : Wd) (H : Hp) (h : Hap) (x : V) (xs : List V) (a : D) (ds : List D) (d : D) (Q : VK), Ok K w H h → VR K w x a → VRs K w xs ds → f a ds h = some d →
  (∀ v w' H', Step w H w' H' → Ok K w' H' h → VR K w' v d → Q v H') → r x xs H Q
theorem PMetS.met [Tbl] {K : PySem.W.Frag} {r : V → List V → Hp → VK → Prop} {f : D → List D → Hap → Option D} (s : PMetS K r f) : MetS K gm r (gP f) := fun w H h x xs a ds Q E ok r1 r2 p => by
  obtain ⟨d, e, q⟩ := ofO_post p
  exact s w H h x xs a ds d Q ok r1 r2 e q
def strsOf : List D → Option (List Str)
  | [] => some []
  | .str b :: ds => (strsOf ds).map (b :: ·)
  | _ => none
theorem strsOf_is : ∀ {ds : List D} {bs : List Str}, strsOf ds = some bs → ds = bs.map D.str
  | [], bs, e => by simp [strsOf] at e; subst e; rfl
  | .str b :: ds, bs, e => by
    simp [strsOf] at e
    obtain ⟨c, e1, rfl⟩ := e
    rw [strsOf_is e1]
    rfl
  | .non :: _, _, e => by simp [strsOf] at e
  | .int _ :: _, _, e => by simp [strsOf] at e
  | .bl _ :: _, _, e => by simp [strsOf] at e
  | .lst _ :: _, _, e => by simp [strsOf] at e
  | .klst _ :: _, _, e => by simp [strsOf] at e
  | .tup _ :: _, _, e => by simp [strsOf] at e
  | .ref _ :: _, _, e => by simp [strsOf] at e
  | .ty _ :: _, _, e => by simp [strsOf] at e
def dJoin : D → List D → Hap → Option D := fun a ds h => match a, ds with
  | .str a, [d] => ((getQ d h).bind strsOf).bind fun ys => if (ys.map (·.length)).sum + ys.length * a.length ≤ 16777216 then some (.str (Txt.join a ys)) else none
  | _, _ => none
theorem s_join [Tbl] {K : PySem.W.Frag} : PMetS K (fun x xs H Q => ∃ a p, ∃ ys : List Str, x = .str a ∧ xs = [.ref p] ∧ (SqL K H p (ys.map V.str) ∨ SqT K H p (ys.map V.str)) ∧
    (ys.map (·.length)).sum + ys.length * a.length ≤ 16777216 ∧ Q (.str (Txt.join a ys)) H) dJoin := by
  intro w H h x xs a ds d Q ok r1 r2 e q
  unfold dJoin at e
  split at e
  · obtain ⟨y, rfl, r3⟩ := vrs1 r2
    obtain ⟨ys, e1, e2⟩ := Option.bind_eq_some_iff.mp e
    obtain ⟨dd, e3, e4⟩ := Option.bind_eq_some_iff.mp e1
    split at e2
    · next c =>
      cases e2
      have q1 := strsOf_is e4
      subst q1
      obtain ⟨p, vs, rfl, h1, r5⟩ := getQ_ok ok r3 e3
      have q2 := r5.strs
      subst q2
      cases r1
      exact ⟨_, p, ys, rfl, rfl, h1, c, q _ _ _ (Step.refl _ _) ok (.str _)⟩
    · cases e2
  · cases e
/-- xs.append(y), xs a cell -/
def gAppend : D → List D → Hap → Rs D := fun a ds h => match a, ds with
  | .ref i, [y] => match h[i]? with
    | some (.lst xs) => if xs.length < sizeLine then .ok .non (h.set i (.lst (xs ++ [y]))) else .stuck
    | _ => .stuck
  | _, _ => .stuck
theorem s_append [Tbl] {K : PySem.W.Frag} : MetS K gm rAppend gAppend := by
  intro w H h x xs a ds Q E ok r1 r2 p
  unfold gAppend at p
  split at p
  · next i y =>
    split at p
    · next zs e1 =>
      split at p
      · next hl =>
        obtain ⟨v, rfl, r3⟩ := vrs1 r2
        cases r1
        next a e2 =>
        obtain ⟨_, o, e3, e4⟩ := ok.cel i a _ e2 e1
        cases o <;> simp [CRel] at e4
        next vs =>
        have q := ok.write (hn := by rw [e1]; exact fun _ z => nomatch z) (o := .lst (vs ++ [v])) (c := .lst (zs ++ [y])) e2 (VRs.append e4 (.cons r3 .nil))
        exact ⟨a, vs, v, rfl, rfl, e3, by rw [e4.length]; exact hl, p _ _ _ q.2 q.1 .non⟩
      · exact p.elim
    · exact p.elim
  · exact p.elim
end
end Vi

set_option Elab.async false
set_option linter.all false
set_option autoImplicit false
set_option maxRecDepth 100000
set_option maxHeartbeats 2000000
namespace Vi
open PySem PySem.Spec PyProof.Rows L2
variable {gm : Str → Option Value}
open scoped Classical
noncomputable section

/-! ### own defs -/
/-- a def's promise: what m does on data -/
def spM [Tbl] (K : PySem.W.Frag) (gm : Str → Option Value) (n : Nat) (m : MF) : Sp := fun vs H Q E => vs.length = n ∧ ∃ w ds h, Ok K w H h ∧ VRs K w vs ds ∧ Post K gm (VR K) w H (m ds h) Q E
def mCall (m : MF) (a : MA) : ME := fun env h => (a env h).bind m
theorem t_call [Tbl] {K : PySem.W.Frag} {W : WX} {m : MF} {n : Nat} {a : MA} {te : TA} (ht : ∀ σ H Q, tA K gm W a σ H Q → te σ H Q) (hn : ∀ env h ds h', a env h = .ok ds h' → ds.length = n) : ∀ σ H Q, tE K gm W (mCall m a) σ H Q → tCallS (spM K gm n m) (WE W) te σ H Q := fun σ H Q ⟨w, env, h, ok, er, p⟩ => by
  refine ht _ _ _ ⟨w, env, h, ok, er, ?_⟩
  have hn' := hn env h
  unfold mCall at p
  revert p hn'
  cases a env h with
  | ok ds h1 => exact fun p hn' v w' H' s ok' vr => ⟨by rw [vr.length]; exact hn' ds h1 rfl, w', ds, h1, ok', vr, Post.step s p⟩
  | err c fs h1 => exact fun p _ => p
  | stuck => exact fun p _ => p
theorem mCons_len {m : ME} {r : MA} {n : Nat} (hr : ∀ env h ds h', r env h = .ok ds h' → ds.length = n) : ∀ env h ds h', mCons m r env h = .ok ds h' → ds.length = n + 1 := by
  intro env h ds h' e
  unfold mCons at e
  cases q : m env h with
  | ok x h1 =>
    rw [q] at e
    have e : (r env h1).bind (fun xs h2 => Rs.ok (x :: xs) h2) = Rs.ok ds h' := e
    cases q2 : r env h1 with
    | ok xs h2 =>
      rw [q2] at e
      cases e
      rw [List.length_cons, hr _ _ _ _ q2]
    | err c fs h2 => rw [q2] at e; cases e
    | stuck => rw [q2] at e; cases e
  | err c fs h1 => rw [q] at e; cases e
  | stuck => rw [q] at e; cases e
theorem mNil_len : ∀ env h ds h', mNil env h = .ok ds h' → ds.length = 0 := by
  intro env h ds h' e
  cases e
  rfl
section
variable {X : Cx} {W : WX} {k n : Nat} {f C : Addr} {fd : FuncData} {ps : List Str} {x : Str} {p pos : Pos} {e : Expr} {es : List Expr} {m : MF} {ma : MA}
theorem e_call [Tbl] (F : FnOk X.prog X.w X.K X.mg X.base (L2N.CX X.prog X.w) k f fd ps (spM X.K X.mg n m)) (hr : Room k X.A) (hm : X.mg x = some (.ref f)) (hk : PySem.W.keepIn X.K (.ref f) = true) (hb : Binds X.K fd ps []) (tk : L2N.Takes X W)
    (ha : PA X (e :: es) (tA X.K X.mg W ma)) (hn : ∀ env h ds h', ma env h = .ok ds h' → ds.length = n) (hg : Gl X x) (hdb : (x == ("__debug__" : Str)) = false := by decide) (he : starEach (e :: es) X.env = (false, eval e X.env) :: starEach es X.env := by rfl) (hpl : (backTo pos (starEach es X.env)).any (·.1) = false := by rfl) :
    PE X (.Call (.Name x p) (e :: es) [] pos) (tE X.K X.mg W (mCall m ma)) :=
  PE.imp (pe_callS F hr hg hm hk hb (fun σ => L2N.passAt tk σ) ha hdb he hpl) (t_call (fun _ _ _ h => h) hn)
end

/-! ### statements -/
def mSeq (a b : MS) : MS := fun env h => match a env h with
  | .nx e h1 => b e h1
  | r => r
def mNext : MS := fun env h => .nx env h
def mExp (a : ME) : MS := fun env h => RsS (a env h) env fun _ h1 => .nx env h1
def mRet (a : ME) : MS := fun env h => RsS (a env h) env fun d h1 => .rt d h1
def mIfS (c : MT) (a b : MS) : MS := fun env h => RsS (c env h) env fun t h1 => if t = true then a env h1 else b env h1
section
variable {X : Cx} {W : WX} {st : Stmt} {sts rest : List Stmt} {a b : MS} {e : Expr} {pos : Pos}
theorem ss_cons [Tbl] (h1 : PS X st (tS X.K X.mg W a)) (h2 : PSs X rest (tS X.K X.mg W b)) : PSs X (st :: rest) (tS X.K X.mg W (mSeq a b)) := PSs.imp (pss_cons h1 h2) fun D σ H ⟨w, env, h, ok, er, p⟩ => by
  refine ⟨w, env, h, ok, er, ?_⟩
  unfold mSeq at p
  revert p
  cases a env h with
  | nx e1 h1 => exact fun p σ' w' H' s ok' er' => ⟨w', e1, h1, ok', er', PostS.step s p⟩
  | bk e1 h1 => exact fun p => p
  | ct e1 h1 => exact fun p => p
  | rt e1 h1 => exact fun p => p
  | er c fs e1 h1 => exact fun p => p
  | stuck => exact fun p => p
theorem ss_one [Tbl] (h1 : PS X st (tS X.K X.mg W a)) : PSs X [st] (tS X.K X.mg W a) := PSs.imp (pss_one h1) fun _ _ _ h => h
theorem ss_nil [Tbl] : PSs X [] (tS X.K X.mg W mNext) := PSs.imp pss_nil fun D σ H ⟨w, env, h, ok, er, p⟩ => p σ w H (Step.refl _ _) ok er
theorem s_exp [Tbl] {m : ME} (he : PE X e (tE X.K X.mg W m)) (hs : swapsWith e none pos.line X.env = pure false := by rfl) : PS X (.Expr e pos) (tS X.K X.mg W (mExp m)) := PS.imp (ps_expr he hs) fun D σ H ⟨w, env, h, ok, er, p⟩ =>
  ⟨w, env, h, ok, er, PostS.bind er p fun v a w' H' h' s ok' vr p' => p' σ w' H' (Step.refl _ _) ok' (er.mono s)⟩
theorem s_ret [Tbl] {m : ME} (he : PE X e (tE X.K X.mg W m)) : PS X (.Return (some e) pos) (tS X.K X.mg W (mRet m)) := PS.imp (ps_ret he) fun D σ H ⟨w, env, h, ok, er, p⟩ =>
  ⟨w, env, h, ok, er, PostS.bind er p fun v a w' H' h' s ok' vr p' => p' v w' H' (Step.refl _ _) ok' vr⟩
theorem s_if [Tbl] {c : Expr} {ss us : List Stmt} {mc : MT} (hc : PT X c (tT X.K X.mg W mc)) (ha : PSs X ss (tS X.K X.mg W a)) (hb : PSs X us (tS X.K X.mg W b)) : PS X (.If c ss us pos) (tS X.K X.mg W (mIfS mc a b)) := PS.imp (ps_if hc ha hb) fun D σ H ⟨w, env, h, ok, er, p⟩ =>
  ⟨w, env, h, ok, er, PostS.bind er p fun v t w' H' h' s ok' vr p' => by
    cases vr
    cases v with
    | true => exact ⟨w', env, h', ok', er.mono s, p'⟩
    | false => exact ⟨w', env, h', ok', er.mono s, p'⟩⟩

/-! ### targets -/
abbrev MG := D → Env → Hap → Option Env
/-- vs: the slots it stores to -/
def TgS [Tbl] (K : PySem.W.Frag) (g : TG) (b : MG) (vs : List Nat) : Prop := ∀ (w : Wd) (H : Hp) (h : Hap) (x : V) (d : D) (σ : L2.St) (env env' : Env) (Q : L2.St → Hp → Prop), Ok K w H h → VR K w x d → EnvR K w σ env → b d env h = some env' →
  (∀ σ', EnvR K w σ' env' → (∀ us : List Nat, (∀ i ∈ vs, i ∈ us) → wipe σ' us = wipe σ us) → Q σ' H) → g x σ H Q
theorem EnvR.set {K : PySem.W.Frag} {w : Wd} {σ : L2.St} {env : Env} {x : V} {d : D} (er : EnvR K w σ env) (vr : VR K w x d) (i : Nat) : EnvR K w (σ.set i (some x)) (env.set i (some d)) := ⟨by rw [List.length_set, List.length_set]; exact er.len, fun j d' e => by
  by_cases q : i = j
  · subst q
    by_cases hl : i < env.length
    · rw [List.getElem?_set_self hl] at e
      cases e
      exact ⟨x, List.getElem?_set_self (by rw [er.len]; exact hl), vr⟩
    · rw [List.getElem?_eq_none (by rw [List.length_set]; omega)] at e
      cases e
  · rw [List.getElem?_set_ne q] at e ⊢
    exact er.get j d' e⟩
theorem wipe_set {σ : L2.St} {i : Nat} {x : Option V} : ∀ {us : List Nat}, i ∈ us → wipe (σ.set i x) us = wipe σ us
  | [], m => absurd m (by simp)
  | u :: us, m => by
    unfold wipe
    by_cases q : i ∈ us
    · rw [wipe_set q]
    · have e : i = u := by
        simp at m
        rcases m with z | z
        · exact z
        · exact absurd z q
      subst e
      clear m
      have : ∀ vs : List Nat, i ∉ vs → wipe (σ.set i x) vs = (wipe σ vs).set i x := by
        intro vs
        induction vs with
        | nil => intro _; rfl
        | cons v vs ih =>
          intro n
          simp at n
          unfold wipe
          rw [ih n.2, List.set_comm _ _ n.1]
      rw [this us q]
      simp
def gNm (i : Nat) : MG := fun d env _ => some (env.set i (some d))
theorem g_nm [Tbl] {K : PySem.W.Frag} (i : Nat) : TgS K (gName i) (gNm i) [i] := fun w H h x d σ env env' Q ok vr er e q => by
  cases e
  exact q _ (er.set vr i) fun us m => wipe_set (m i (by simp))
abbrev MGs := List D → Env → Hap → Option Env
def TgsS [Tbl] (K : PySem.W.Frag) (g : TGs) (b : MGs) (vs : List Nat) : Prop := ∀ (w : Wd) (H : Hp) (h : Hap) (x : List V) (d : List D) (σ : L2.St) (env env' : Env) (Q : L2.St → Hp → Prop), Ok K w H h → VRs K w x d → EnvR K w σ env → b d env h = some env' →
  (∀ σ', EnvR K w σ' env' → (∀ us : List Nat, (∀ i ∈ vs, i ∈ us) → wipe σ' us = wipe σ us) → Q σ' H) → g x σ H Q
def gsNil : MGs := fun ds env _ => match ds with
  | [] => some env
  | _ => none
def gsCons (a : MG) (b : MGs) : MGs := fun ds env h => match ds with
  | d :: ds => (a d env h).bind fun e1 => b ds e1 h
  | _ => none
theorem gs_nil [Tbl] {K : PySem.W.Frag} : TgsS K gNil gsNil [] := fun w H h x d σ env env' Q ok vr er e q => by
  unfold gsNil at e
  split at e <;> cases e
  cases vr
  exact ⟨rfl, q σ er fun _ _ => rfl⟩
theorem gs_cons [Tbl] {K : PySem.W.Frag} {t : TG} {u : TGs} {a : MG} {b : MGs} {vs us : List Nat} (h1 : TgS K t a vs) (h2 : TgsS K u b us) : TgsS K (gCons t u) (gsCons a b) (vs ++ us) := fun w H h x d σ env env' Q ok vr er e q => by
  unfold gsCons at e
  split at e
  · next d ds =>
    obtain ⟨e1, q1, q2⟩ := Option.bind_eq_some_iff.mp e
    cases vr with
    | cons r1 r2 =>
      exact ⟨_, _, rfl, h1 w H h _ d σ env e1 _ ok r1 er q1 fun σ1 er1 w1 => h2 w H h _ ds σ1 e1 env' _ ok r2 er1 q2 fun σ2 er2 w2 => q σ2 er2 fun zs m => by rw [w2 zs fun i hi => m i (List.mem_append_right _ hi), w1 zs fun i hi => m i (List.mem_append_left _ hi)]⟩
  · cases e
def gTp (n : Nat) (b : MGs) : MG := fun d env h => match d with
  | .tup ds => if ds.length = n then b ds env h else none
  | _ => none
theorem g_tp [Tbl] {K : PySem.W.Frag} {n : Nat} {t : TGs} {b : MGs} {vs : List Nat} (s : TgsS K t b vs) : TgS K (gTup K n t) (gTp n b) vs := fun w H h x d σ env env' Q ok vr er e q => by
  unfold gTp at e
  split at e
  · next ds =>
    split at e
    · next hl =>
      obtain ⟨p, zs, rfl, h1, r1⟩ := getT_ok ok vr rfl
      exact ⟨p, zs, rfl, h1, by rw [r1.length]; exact hl, s w H h zs ds σ env env' Q ok r1 er e q⟩
    · cases e
  · cases e
def mAsg (a : ME) (g : MG) : MS := fun env h => RsS (a env h) env fun d h1 => match g d env h1 with
  | some e1 => .nx e1 h1
  | none => .stuck
theorem t_asg [Tbl] {K : PySem.W.Frag} {te : TE} {m : ME} {g : TG} {b : MG} {vs : List Nat} (ht : ∀ σ H Q, tE K gm W m σ H Q → te σ H Q) (hg : TgS K g b vs) : ∀ D σ H, tS K gm W (mAsg m b) D σ H → tAsg te g D σ H := fun D σ H ⟨w, env, h, ok, er, p⟩ =>
  ht _ _ _ ⟨w, env, h, ok, er, PostS.bind er p fun v d w' H' h' s ok' vr p' => by
    cases q : b d env h' with
    | none => rw [q] at p'; exact p'.elim
    | some e1 =>
      rw [q] at p'
      exact hg w' H' h' v d σ env e1 _ ok' vr (er.mono s) q fun σ' er' _ => p' σ' w' H' (Step.refl _ _) ok' er'⟩
theorem s_set [Tbl] {i : Nat} {x : Str} {m : ME} {pos' : Pos} (hN : X.N.Nodup) (hi : X.N[i]? = some x) (hx : Loc X.env.scope x) (he : PE X e (tE X.K X.mg W m)) (hs : swapsWith e (some (.Name x pos')) pos.line X.env = pure false := by rfl) (hf : X.fn x = true ∨ X.env.scope.names.lookup x = some .local := by first | exact .inl rfl | exact .inr rfl | assumption) :
    PS X (.Assign [.Name x pos'] e pos) (tS X.K X.mg W (mAsg m (gNm i))) := PS.imp (ps_set hN hi hx he hs hf) (t_asg (fun _ _ _ h => h) (g_nm i))
theorem s_asg [Tbl] {tg : Expr} {m : ME} {g : TG} {b : MG} {vs : List Nat} (hg : PG X tg g) (hb : TgS X.K g b vs) (he : PE X e (tE X.K X.mg W m)) (hs : swapsWithSole [tg] e pos.line X.env = pure false := by rfl) (hw : swappedStores [tg] e X.env = pure none := by rfl)
    (h1 : (assignEach [tg] X.env).map (·.2) = [assign tg X.env] := by rfl) : PS X (.Assign [tg] e pos) (tS X.K X.mg W (mAsg m b)) := PS.imp (ps_asg he hg hs hw h1) (t_asg (fun _ _ _ h => h) hb)
/-- o[i] = e, o a cell -/
def sIx : D → D → D → Hap → Option Hap := fun o i v h => match o, i with
  | .ref j, .int k => match h[j]? with
    | some (.lst xs) => (ixN xs.length k).map fun n => h.set j (.lst (xs.set n v))
    | _ => none
  | _, _ => none
def mSub (a o i : ME) : MS := fun env h => RsS (a env h) env fun d h1 => RsS (o env h1) env fun od h2 => RsS (i env h2) env fun id h3 => match sIx od id d h3 with
  | some h4 => .nx env h4
  | none => .stuck
theorem s_sub1 [Tbl] {o i : Expr} {ma mo mi : ME} {pos' : Pos} (he : PE X e (tE X.K X.mg W ma)) (ho : PE X o (tE X.K X.mg W mo)) (hi : PE X i (tE X.K X.mg W mi)) (hs : swapsWithSole [.Subscript o i pos'] e pos.line X.env = pure false := by rfl) (hw : swappedStores [.Subscript o i pos'] e X.env = pure none := by rfl)
    (h1 : (assignEach [.Subscript o i pos'] X.env).map (·.2) = [assign (.Subscript o i pos') X.env] := by rfl)
    (ha : ∀ v, assign (.Subscript o i pos') X.env v = (do
      let ov ← holding [v] (eval o X.env)
      let iv ← holding [v, ov] (eval i X.env)
      standAt pos'
      holding [v, ov, iv] (setItem ov iv v)
      release [v, ov, iv] []) := by intro _; rfl) : PS X (.Assign [.Subscript o i pos'] e pos) (tS X.K X.mg W (mSub ma mo mi)) :=
  PS.imp (ps_asg he (pg_sub ho hi set_list ha) hs hw h1) fun D σ H ⟨w, env, h, ok, er, p⟩ => ⟨w, env, h, ok, er, PostS.bind er p fun v d w1 H1 h1 s1 ok1 v1 p1 =>
    ⟨w1, env, h1, ok1, er.mono s1, PostS.bind (er.mono s1) p1 fun vo od w2 H2 h2 s2 ok2 v2 p2 => ⟨w2, env, h2, ok2, (er.mono s1).mono s2, PostS.bind ((er.mono s1).mono s2) p2 fun vi id w3 H3 h3 s3 ok3 v3 p3 => by
      cases q : sIx od id d h3 with
      | none => rw [q] at p3; exact p3.elim
      | some h4 =>
        rw [q] at p3
        unfold sIx at q
        split at q
        · next j k =>
          split at q
          · next xs e1 =>
            obtain ⟨n, e2, rfl⟩ := Option.map_eq_some_iff.mp q
            cases v3
            cases v2 with
            | ref e3 =>
              next a =>
              have e3' := s3.ix e3
              obtain ⟨_, ob, e4, e5⟩ := ok3.cel j a _ e3' e1
              cases ob <;> simp [CRel] at e5
              next vs =>
              have z := ok3.write (hn := by rw [e1]; exact fun _ z => nomatch z) (o := .lst (vs.set n v)) (c := .lst (xs.set n d)) e3' (VRs.set ((v1.mono s2).mono s3) n e5)
              exact ⟨a, vs, k, n, rfl, rfl, e4, by rw [e5.length]; exact e2, p3 σ _ _ z.2 z.1 ((((er.mono s1).mono s2).mono s3).mono z.2)⟩
          · cases q
        · cases q⟩⟩⟩
end

/-! ### what is walked -/
/-- J gives the items xs, one by one, while V holds of the world and gd of the cells -/
structure Wk [Tbl] (K : PySem.W.Frag) (J : It) (xs : List D) (V : Wd → Prop) (gd : Hap → Prop) : Prop where
  up : ∀ w H w' H', Step w H w' H' → V w → V w'
  goes : ∀ w H h i, Ok K w H h → V w → gd h → i < xs.length → J.go i H
  stops : ∀ w H h, Ok K w H h → V w → gd h → J.stop xs.length H
  yields : ∀ w H h i y H', Ok K w H h → V w → gd h → i < xs.length → J.yld i H y H' → ∃ w', Step w H w' H' ∧ Ok K w' H' h ∧ ∃ e, xs[i]? = some e ∧ VR K w' y e
/-- an item that is there already -/
theorem yld0 [Tbl] {K : PySem.W.Frag} {w : Wd} {H H' : Hp} {h : Hap} {xs : List D} {i : Nat} {y : V} (ok : Ok K w H h) (z : H' = H ∧ ∃ e, xs[i]? = some e ∧ VR K w y e) : ∃ w', Step w H w' H' ∧ Ok K w' H' h ∧ ∃ e, xs[i]? = some e ∧ VR K w' y e := by
  obtain ⟨rfl, e, e1, e2⟩ := z
  exact ⟨w, Step.refl _ _, ok, e, e1, e2⟩
/-- what no world knows stays -/
theorem Step.own {w w' : Wd} {H H' : Hp} {a : Addr} {o : HO} (st : Step w H w' H') (d : H a = some o) (f : w.F a = none) (r : a ∉ w.ρ) (nt : NT o) : H' a = some o ∧ w'.F a = none ∧ a ∉ w'.ρ := by
  refine ⟨st.keep _ _ r nt d, ?_, fun m => ?_⟩
  · cases z : w'.F a with
    | none => rfl
    | some q =>
      rcases st.nf a q z with z2 | z2
      · rw [f] at z2; cases z2
      · rw [d] at z2; cases z2
  · rcases st.new a m with z2 | z2
    · exact r z2
    · rw [d] at z2; cases z2
def VI [Tbl] (K : PySem.W.Frag) (w : Wd) (J : It) (s : List D × (Hap → Prop)) : Prop := ∃ V : Wd → Prop, V w ∧ Wk K J s.1 V s.2
abbrev MI := Env → Hap → Rs (List D × (Hap → Prop))
def tI [Tbl] (K : PySem.W.Frag) (gm : Str → Option Value) (W : WX) (m : MI) : TI := fun σ H R => ∃ w env h, Ok K w H h ∧ EnvR K w σ env ∧ Post K gm (VI K) w H (m env h) R fun c d H' => W c d σ H'
theorem PI.imp {X : Cx} {tg e : Expr} {t t' : TI} (p : PI X tg e t) (i : ∀ σ H Q, t' σ H Q → t σ H Q) : PI X tg e t' := ⟨fun pins s σ H Q I h => p.run pins s σ H Q I (i _ _ _ h)⟩
theorem PI.or {X : Cx} {tg e : Expr} {t t' : TI} (p : PI X tg e t) (p' : PI X tg e t') : PI X tg e fun σ H R => t σ H R ∨ t' σ H R := ⟨fun pins s σ H Q I h => by
  rcases h with h | h
  · exact p.run pins s σ H Q I h
  · exact p'.run pins s σ H Q I h⟩
def mI (m : ME) : MI := fun env h => (m env h).bind fun d h1 => match seqOf d h1 with
  | some xs => .ok (xs, fun h => seqOf d h = some xs) h1
  | none => .stuck
theorem wk_list [Tbl] {K : PySem.W.Frag} {a : Addr} {d : D} {xs : List D} (hd : ∀ h ys, seqOf d h = some ys → getL d h = some ys) : Wk K (Itl K a) xs (fun w => VR K w (.ref a) d) (fun h => seqOf d h = some xs) where
  up := fun w H w' H' s r => r.mono s
  goes := fun w H h i ok r g hi => by
    obtain ⟨b, vs, e, h1, r1⟩ := getL_ok ok r (hd h xs g)
    cases e
    exact ⟨vs, vs[i]'(by rw [r1.length]; exact hi), h1, by simp [r1.length, hi]⟩
  stops := fun w H h ok r g => by
    obtain ⟨b, vs, e, h1, r1⟩ := getL_ok ok r (hd h xs g)
    cases e
    exact ⟨vs, h1, by rw [r1.length]; exact Nat.le_refl _⟩
  yields := fun w H h i y H' ok r g hi q => yld0 ok <| by
    obtain ⟨b, vs, e, h1, r1⟩ := getL_ok ok r (hd h xs g)
    cases e
    exact ⟨q.1, r1.get (q.2 vs h1)⟩
theorem wk_tup [Tbl] {K : PySem.W.Frag} {a : Addr} {xs : List D} : Wk K (Itt K a) xs (fun w => VR K w (.ref a) (.tup xs)) (fun h => seqOf (.tup xs) h = some xs) where
  up := fun w H w' H' s r => r.mono s
  goes := fun w H h i ok r g hi => by
    obtain ⟨b, vs, e, h1, r1⟩ := getT_ok ok r rfl
    cases e
    exact ⟨vs, vs[i]'(by rw [r1.length]; exact hi), h1, by simp [r1.length, hi]⟩
  stops := fun w H h ok r g => by
    obtain ⟨b, vs, e, h1, r1⟩ := getT_ok ok r rfl
    cases e
    exact ⟨vs, h1, by rw [r1.length]; exact Nat.le_refl _⟩
  yields := fun w H h i y H' ok r g hi q => yld0 ok <| by
    obtain ⟨b, vs, e, h1, r1⟩ := getT_ok ok r rfl
    cases e
    exact ⟨q.1, r1.get (q.2 vs h1)⟩
theorem wk_str [Tbl] {K : PySem.W.Frag} {z : Str} {gd : Hap → Prop} : Wk K (Its z) (z.cps.toList.map fun c => .str (ch c)) (fun _ => True) gd where
  up := fun _ _ _ _ _ _ => trivial
  goes := fun w H h i ok r g hi => by
    have q : i < z.cps.size := by simpa using hi
    exact q
  stops := fun w H h ok r g => by show z.cps.size ≤ _; simp
  yields := fun w H h i y H' ok r g hi q => yld0 ok <| by
    obtain ⟨e, c, h1, rfl⟩ := q
    refine ⟨e, .str (ch c), ?_, .str _⟩
    rw [List.getElem?_map]
    have : z.cps.toList[i]? = some c := by rw [Array.getElem?_toList]; exact h1
    rw [this]
    rfl
theorem i_any [Tbl] {X : Cx} {W : WX} {tg e : Expr} {m : ME} (he : PE X e (tE X.K X.mg W m)) : PI X tg e (tI X.K X.mg W (mI m)) := PI.imp (PI.or (pi_list he) (PI.or (pi_tup he) (pi_str he))) fun σ H Q ⟨w, env, h, ok, er, p⟩ => by
  have base : ∀ R : VK, (∀ v a w' H' h', Step w H w' H' → Ok X.K w' H' h' → m env h = .ok a h' → VR X.K w' v a → Post X.K X.mg (VI X.K) w' H' (match seqOf a h' with
      | some xs => .ok (xs, fun h => seqOf a h = some xs) h'
      | none => .stuck) Q (fun c d H' => W c d σ H') → R v H') → tE X.K X.mg W m σ H R := by
    intro R k
    refine ⟨w, env, h, ok, er, ?_⟩
    unfold mI at p
    revert p k
    cases m env h with
    | ok a h1 => exact fun p k v w' H' s ok' vr => k v a w' H' h1 s ok' rfl vr (Post.step s p)
    | err c fs h1 => exact fun p _ => p
    | stuck => exact fun p _ => p
  by_cases c1 : ∃ xs h1, m env h = .ok (.tup xs) h1
  · obtain ⟨xs, h1, e1⟩ := c1
    refine .inr (.inl (base _ fun v a w' H' h' s ok' e2 vr p' => ?_))
    rw [e1] at e2
    cases e2
    obtain ⟨b, vs, rfl, q1, q2⟩ := getT_ok ok' vr rfl
    exact ⟨b, rfl, ⟨vs, q1⟩, p'.ok ok' ⟨_, vr, wk_tup⟩⟩
  · by_cases c2 : ∃ z h1, m env h = .ok (.str z) h1
    · obtain ⟨z, h1, e1⟩ := c2
      refine .inr (.inr (base _ fun v a w' H' h' s ok' e2 vr p' => ?_))
      rw [e1] at e2
      cases e2
      cases vr
      exact ⟨z, rfl, p'.ok ok' ⟨_, trivial, wk_str⟩⟩
    · refine .inl (base _ fun v a w' H' h' s ok' e2 vr p' => ?_)
      have hd : ∀ h ys, seqOf a h = some ys → getL a h = some ys := by
        intro h ys e
        unfold seqOf at e
        split at e
        · exact absurd ⟨_, _, e2⟩ c2
        · exact absurd ⟨_, _, e2⟩ c1
        · exact e
      cases e3 : seqOf a h' with
      | none => rw [e3] at p'; exact p'.elim
      | some xs =>
        rw [e3] at p'
        obtain ⟨b, vs, rfl, q1, q2⟩ := getL_ok ok' vr (hd _ _ e3)
        exact ⟨b, rfl, ⟨vs, q1⟩, p'.ok ok' ⟨_, vr, wk_list hd⟩⟩
/-- range -/
def rngL (lo : Int) (n : Nat) : List D := (List.range n).map fun (i : Nat) => .int (lo + (i : Int))
theorem wk_rng [Tbl] {K : PySem.W.Frag} {lo : Int} {n : Nat} : Wk K (Itr lo n) (rngL lo n) (fun _ => True) (fun _ => True) where
  up := fun _ _ _ _ _ _ => trivial
  goes := fun w H h i ok r g hi => by
    have : i < n := by simpa [rngL] using hi
    exact this
  stops := fun w H h ok r g => by show n ≤ _; simp [rngL]
  yields := fun w H h i y H' ok r g hi q => yld0 ok <| by
    obtain ⟨e, rfl⟩ := q
    have hi' : i < n := by simpa [rngL] using hi
    exact ⟨e, .int (lo + i), by simp [rngL, hi'], .int _⟩
def rng1 : List D → Option (List D × (Hap → Prop))
  | [.int j] => if -(2 ^ 62) ≤ j ∧ j < 2 ^ 62 then some (rngL 0 j.toNat, fun _ => True) else none
  | _ => none
def mRng (f : List D → Option (List D × (Hap → Prop))) (a : MA) : MI := fun env h => (a env h).bind fun xs h1 => ofO (f xs) h1
section
variable {X : Cx} {W : WX} {tg a b : Expr} {p pos : Pos} {m : MA}
theorem i_rng1 [Tbl] (hm : X.mg "range" = none) (hg : Gl X "range") (ha : PA X [a] (tA X.K X.mg W m)) (hs : starEach [a] X.env = [(false, eval a X.env)] := by rfl) : PI X tg (.Call (.Name "range" p) [a] [] pos) (tI X.K X.mg W (mRng rng1 m)) :=
  PI.imp (pi_range1 hg hm ha hs) fun σ H Q ⟨w, env, h, ok, er, p⟩ => ⟨w, env, h, ok, er, Post.bind p fun vs ds w' H' h' s ok' vr p' => by
    obtain ⟨d, e, q⟩ := ofO_post p'
    unfold rng1 at e
    split at e
    · split at e
      · next c =>
        cases e
        obtain ⟨x, rfl, r⟩ := vrs1 vr
        cases r
        exact ⟨_, rfl, c.1, c.2, q _ _ _ (Step.refl _ _) ok' ⟨_, trivial, wk_rng⟩⟩
      · cases e
    · cases e⟩
end

/-! ### for -/
@[reducible] def RS.turn (r : RS) (k : Env → Hap → RS) : RS := match r with
  | .nx e h => k e h
  | .ct e h => k e h
  | .bk e h => .nx e h
  | .rt d h => .rt d h
  | .er c fs e h => .er c fs e h
  | .stuck => .stuck
def forL (gd : Hap → Prop) (g : MG) (b : MS) : List D → Env → Hap → RS
  | [], env, h => if gd h then .nx env h else .stuck
  | x :: xs, env, h => if gd h then match g x env h with
    | some e1 => (b e1 h).turn (forL gd g b xs)
    | none => .stuck
    else .stuck
def mFor (s : MI) (g : MG) (b : MS) : MS := fun env h => RsS (s env h) env fun s h1 => forL s.2 g b s.1 env h1
theorem t_for [Tbl] {K : PySem.W.Frag} {W : WX} {wi : TI} {s : MI} {g : TG} {mg : MG} {vs : List Nat} {tb : TS} {b : MS} (hi : ∀ σ H Q, tI K gm W s σ H Q → wi σ H Q) (hg : TgS K g mg vs) (hb : ∀ D σ H, tS K gm W b D σ H → tb D σ H) : ∀ D σ H, tS K gm W (mFor s mg b) D σ H → tFor wi g tb D σ H := fun D σ H ⟨w, env, h, ok, er, p⟩ => by
  refine hi _ _ _ ⟨w, env, h, ok, er, PostS.bind er p fun J s w' H' h' st ok' vr p' => ?_⟩
  obtain ⟨xs, gd⟩ := s
  obtain ⟨V, v0, wk⟩ := vr
  refine ⟨fun i m σ H => m = xs.length - i ∧ i ≤ xs.length ∧ ∃ w env h, Ok K w H h ∧ EnvR K w σ env ∧ V w ∧ PostS K gm w H (forL gd mg b (xs.drop i) env h) D W, ⟨xs.length, by simp, Nat.zero_le _, w', env, h', ok', er.mono st, v0, by simpa using p'⟩, ?_⟩
  rintro i m σ1 H1 ⟨rfl, hi, w1, env1, h1, ok1, er1, v1, p1⟩
  by_cases hl : i < xs.length
  · rw [List.drop_eq_getElem_cons hl] at p1
    unfold forL at p1
    by_cases g0 : gd h1
    · rw [if_pos g0] at p1
      refine .inr ⟨wk.goes w1 H1 h1 i ok1 v1 g0 hl, fun σ H => i + 1 ≤ xs.length ∧ ∃ w env h, Ok K w H h ∧ EnvR K w σ env ∧ V w ∧ PostS K gm w H (forL gd mg b (xs.drop (i + 1)) env h) D W, fun σ' H' z => ⟨xs.length - (i + 1), by omega, rfl, z⟩, fun y H' z => ?_⟩
      obtain ⟨w1, st1, ok1, e, e1, r1⟩ := wk.yields w1 H1 h1 i y H' ok1 v1 g0 hl z
      have v1 := wk.up _ _ _ _ st1 v1
      have er1 := er1.mono st1
      have p1 := PostS.step st1 p1
      have e2 : xs[i] = e := by
        rw [List.getElem?_eq_getElem hl] at e1
        exact Option.some.inj e1
      rw [e2] at p1
      cases q : mg e env1 h1 with
      | none => rw [q] at p1; exact p1.elim
      | some e3 =>
        rw [q] at p1
        refine hg w1 _ h1 y e σ1 env1 e3 _ ok1 r1 er1 q fun σ2 er2 _ => hb _ _ _ ⟨w1, e3, h1, ok1, er2, ?_⟩
        have p2 : PostS K gm w1 _ ((b e3 h1).turn (forL gd mg b (xs.drop (i + 1)))) D W := p1
        clear p1
        revert p2
        cases q2 : b e3 h1 with
        | nx e4 h4 => exact fun p1 σ3 w3 H3 s3 ok3 er3 => ⟨hl, w3, e4, h4, ok3, er3, wk.up _ _ _ _ s3 v1, PostS.step s3 p1⟩
        | ct e4 h4 => exact fun p1 σ3 w3 H3 s3 ok3 er3 => ⟨hl, w3, e4, h4, ok3, er3, wk.up _ _ _ _ s3 v1, PostS.step s3 p1⟩
        | bk e4 h4 => exact fun p1 => p1
        | rt d h4 => exact fun p1 => p1
        | er c fs e4 h4 => exact fun p1 => p1
        | stuck => exact fun p1 => p1
    · rw [if_neg g0] at p1
      exact p1.elim
  · have e : i = xs.length := by omega
    subst e
    rw [List.drop_length] at p1
    unfold forL at p1
    by_cases g0 : gd h1
    · rw [if_pos g0] at p1
      exact .inl ⟨wk.stops w1 H1 h1 ok1 v1 g0, p1 _ _ _ (Step.refl _ _) ok1 er1⟩
    · rw [if_neg g0] at p1
      exact p1.elim
theorem s_for [Tbl] {X : Cx} {W : WX} {tg iter : Expr} {body : List Stmt} {s : MI} {g : TG} {mg : MG} {vs : List Nat} {b : MS} {pos : Pos} (hp : PassesOwn (model X.prog X.w) X.A X.env X.xe) (hc : X.calm = true) (hg : PG X tg g) (hb : TgS X.K g mg vs) (hi : PI X tg iter (tI X.K X.mg W s)) (hbd : PSs X body (tS X.K X.mg W b))
    (hs : ∀ x, foldedSetIterable iter X.env x = pure x := by intro _; rfl) : PS X (.For tg iter body [] pos) (tS X.K X.mg W (mFor s mg b)) := PS.imp (ps_for hp hc hi hg hbd hs) (t_for (fun _ _ _ h => h) hb fun _ _ _ h => h)

/-! ### while -/
def whL (c : MT) (b : MS) : Nat → Env → Hap → RS
  | 0, _, _ => .stuck
  | n + 1, env, h => RsS (c env h) env fun t h1 => if t = true then (b env h1).turn (whL c b n) else .nx env h1
def mWh (n : Nat) (c : MT) (b : MS) : MS := whL c b n
theorem s_wh [Tbl] {X : Cx} {W : WX} (n : Nat) {c : Expr} {body : List Stmt} {mc : MT} {b : MS} {pos : Pos} (hp : PassesOwn (model X.prog X.w) X.A X.env X.xe) (hc : PT X c (tT X.K X.mg W mc)) (hb : PSs X body (tS X.K X.mg W b)) : PS X (.While c body [] pos) (tS X.K X.mg W (mWh n mc b)) := PS.imp (ps_while hp hc hb) fun D σ H ⟨w, env, h, ok, er, p⟩ => by
  refine ⟨fun m σ H => ∃ w env h, Ok X.K w H h ∧ EnvR X.K w σ env ∧ PostS X.K X.mg w H (whL mc b m env h) D W, ⟨n, w, env, h, ok, er, p⟩, ?_⟩
  rintro m σ1 H1 ⟨w1, env1, h1, ok1, er1, p1⟩
  cases m with
  | zero => exact p1.elim
  | succ m =>
    unfold whL at p1
    refine ⟨w1, env1, h1, ok1, er1, PostS.bind er1 p1 fun v t w2 H2 h2 s2 ok2 vr p2 => ?_⟩
    cases vr
    cases v with
    | false => exact p2 σ1 w2 H2 (Step.refl _ _) ok2 (er1.mono s2)
    | true =>
      refine ⟨fun σ H => ∃ w env h, Ok X.K w H h ∧ EnvR X.K w σ env ∧ PostS X.K X.mg w H (whL mc b m env h) D W, fun σ' H' z => ⟨m, Nat.lt_succ_self m, z⟩, w2, env1, h2, ok2, er1.mono s2, ?_⟩
      rw [if_pos rfl] at p2
      have p3 : PostS X.K X.mg w2 _ ((b env1 h2).turn (whL mc b m)) D W := p2
      clear p2
      revert p3
      cases q2 : b env1 h2 with
      | nx e4 h4 => exact fun p1 σ3 w3 H3 s3 ok3 er3 => ⟨w3, e4, h4, ok3, er3, PostS.step s3 p1⟩
      | ct e4 h4 => exact fun p1 σ3 w3 H3 s3 ok3 er3 => ⟨w3, e4, h4, ok3, er3, PostS.step s3 p1⟩
      | bk e4 h4 => exact fun p1 => p1
      | rt d h4 => exact fun p1 => p1
      | er c fs e4 h4 => exact fun p1 => p1
      | stuck => exact fun p1 => p1

/-! ### comprehensions -/
@[reducible] def Rs.bindN {α β : Type} (r : Rs α) (f : α → Hap → Rs β) : Rs β := match r with
  | .ok a h => f a h
  | _ => .stuck
def wipeE (env : Env) : List Nat → Env
  | [] => env
  | v :: vs => (wipeE env vs).set v none
def compL (gd : Hap → Prop) (vs : List Nat) (g : MG) (c : MT) (e : ME) (env : Env) : List D → Hap → List D → Rs (List D)
  | [], h, acc => if gd h then .ok acc h else .stuck
  | x :: xs, h, acc => if gd h then match g x (wipeE env vs) h with
    | some e1 => (c e1 h).bindN fun t h1 => if t = true then (e e1 h1).bindN fun y h2 => if acc.length < sizeLine then compL gd vs g c e env xs h2 (acc ++ [y]) else .stuck
      else compL gd vs g c e env xs h1 acc
    | none => .stuck
    else .stuck
def mComp (s : MI) (vs : List Nat) (g : MG) (c : MT) (e : ME) : ME := fun env h => (s env h).bind fun s h1 => (compL s.2 vs g c e env s.1 h1 []).bindN fun ys h2 => .ok (.lst ys) h2
def mYes : MT := fun _ h => .ok true h
abbrev W0 : WX := fun _ _ _ _ => False
theorem wipeE_env {K : PySem.W.Frag} {w : Wd} {σ : L2.St} {env : Env} (er : EnvR K w σ env) : ∀ vs : List Nat, EnvR K w (wipe σ vs) (wipeE env vs)
  | [] => er
  | v :: vs => by
    have q := wipeE_env er vs
    unfold wipe wipeE
    refine ⟨by rw [List.length_set, List.length_set]; exact q.len, fun j d e => ?_⟩
    by_cases z : v = j
    · subst z
      by_cases hl : v < (wipeE env vs).length
      · rw [List.getElem?_set_self hl] at e; cases e
      · rw [List.getElem?_eq_none (by rw [List.length_set]; omega)] at e; cases e
    · rw [List.getElem?_set_ne z] at e ⊢
      exact q.get j d e
theorem Post.bindN [Tbl] {K : PySem.W.Frag} {α β γ δ : Type} {VA : Wd → β → α → Prop} {r : Rs α} {f : α → Hap → Rs γ} {w : Wd} {H : Hp} {Q1 : β → Hp → Prop} {E : XK} (hn : r.bindN f ≠ .stuck) (k : ∀ v a w' H' h', r = .ok a h' → Step w H w' H' → Ok K w' H' h' → VA w' v a → Q1 v H') : Post K gm VA w H r Q1 E := by
  cases r with
  | ok a h => exact fun v w' H' s ok vr => k v a w' H' h rfl s ok vr
  | err c fs h => exact absurd rfl hn
  | stuck => exact absurd rfl hn
theorem Step.put {w w' : Wd} {H H' : Hp} {p : Addr} {o : HO} (s : Step w H w' H') (hp : H p = none) : Step w H w' (upd H' p o) := ⟨s.f, s.r, fun a u n nt e => by
    rw [upd_ne (ne_of_none e hp)]
    exact s.keep a u n nt e, fun a e => by
    by_cases q : a = p
    · subst q; exact absurd hp e
    · rw [upd_ne q]; exact s.dom a e, s.new, s.nf⟩
theorem t_comp [Tbl] {K : PySem.W.Frag} {W : WX} {wi : TI} {s : MI} {g : TG} {mg : MG} {us vs : List Nat} {tt : TT} {te : TE} {c : MT} {e : ME} (hi : ∀ σ H Q, tI K gm W s σ H Q → wi σ H Q) (hg : TgS K g mg us) (hu : ∀ i ∈ us, i ∈ vs) (ht : ∀ σ H Q, tT K gm W0 c σ H Q → tt σ H Q) (he : ∀ σ H Q, tE K gm W0 e σ H Q → te σ H Q) :
    ∀ σ H Q, tE K gm W (mComp s vs mg c e) σ H Q → tLc wi g tt te vs σ H Q := fun σ H Q ⟨w, env, h, ok, er, p⟩ => by
  refine hi _ _ _ ⟨w, env, h, ok, er, Post.bind p fun J s w1 H1 h1 s1 ok1 vr p1 => fun Da hD => ?_⟩
  obtain ⟨xs, gd⟩ := s
  obtain ⟨V, v0, wk⟩ := vr
  have er1 := er.mono s1
  obtain ⟨f0, r0⟩ := ok1.fresh hD
  generalize hr : compL gd vs mg c e env xs h1 [] = r at p1
  refine ⟨fun i m H => m = xs.length - i ∧ i ≤ xs.length ∧ ∃ w h acc vacc, Ok K w H h ∧ Step w1 H1 w H ∧ V w ∧ H Da = some (.lst vacc) ∧ w.F Da = none ∧ Da ∉ w.ρ ∧ VRs K w vacc acc ∧ compL gd vs mg c e env (xs.drop i) h acc = r,
    ⟨xs.length, by simp, Nat.zero_le _, w1, h1, [], [], ok1.put (fun o e => by rw [hD] at e; cases e) f0 r0, (Step.refl w1 H1).put hD, v0, upd_same, f0, r0, .nil, by simpa using hr⟩, ?_⟩
  rintro i m H2 ⟨rfl, hi, w2, h2, acc, vacc, ok2, s2, v2, d2, f2, r2, a2, hr2⟩
  have ns : r ≠ .stuck := fun z => by rw [z] at p1; exact p1
  by_cases hl : i < xs.length
  · rw [List.drop_eq_getElem_cons hl] at hr2
    unfold compL at hr2
    by_cases g0 : gd h2
    · rw [if_pos g0] at hr2
      refine .inr ⟨wk.goes w2 H2 h2 i ok2 v2 g0 hl, fun H => i + 1 ≤ xs.length ∧ ∃ w h acc vacc, Ok K w H h ∧ Step w1 H1 w H ∧ V w ∧ H Da = some (.lst vacc) ∧ w.F Da = none ∧ Da ∉ w.ρ ∧ VRs K w vacc acc ∧ compL gd vs mg c e env (xs.drop (i + 1)) h acc = r,
        fun H' z => ⟨xs.length - (i + 1), by omega, rfl, z⟩, fun y H' z => ?_⟩
      obtain ⟨w2, st2, ok2, el, e1, ry⟩ := wk.yields w2 H2 h2 i y H' ok2 v2 g0 hl z
      obtain ⟨d2, f2, r2⟩ := st2.own d2 f2 r2 fun _ z => nomatch z
      have v2 := wk.up _ _ _ _ st2 v2
      have a2 := a2.mono st2
      have s2 := s2.trans st2
      have e2 : xs[i] = el := by
        rw [List.getElem?_eq_getElem hl] at e1
        exact Option.some.inj e1
      rw [e2] at hr2
      cases q : mg el (wipeE env vs) h2 with
      | none => rw [q] at hr2; exact absurd hr2.symm ns
      | some e3 =>
        rw [q] at hr2
        have hr3 : ((c e3 h2).bindN fun t h1 => if t = true then (e e3 h1).bindN fun y h2 => if acc.length < sizeLine then compL gd vs mg c e env (xs.drop (i + 1)) h2 (acc ++ [y]) else .stuck
          else compL gd vs mg c e env (xs.drop (i + 1)) h1 acc) = r := hr2
        refine hg w2 _ h2 y el (wipe σ vs) (wipeE env vs) e3 _ ok2 ry (wipeE_env (er1.mono s2) vs) q fun σ2 er2 wp => ⟨?_, ht _ _ _ ⟨w2, e3, h2, ok2, er2, Post.bindN (f := fun t h1 => if t = true then (e e3 h1).bindN fun y h2 => if acc.length < sizeLine then compL gd vs mg c e env (xs.drop (i + 1)) h2 (acc ++ [y]) else .stuck
      else compL gd vs mg c e env (xs.drop (i + 1)) h1 acc) (δ := D) (by rw [hr3]; exact ns) fun b t w3 H3 h3 ec s3 ok3 vb => ?_⟩⟩
        · rw [wp vs hu]
          clear wp er2
          have idem : ∀ (us : List Nat) (τ : L2.St), (∀ i ∈ us, i ∈ vs) → wipe (wipe τ us) vs = wipe τ vs := by
            intro us
            induction us with
            | nil => intro τ _; rfl
            | cons u us ih =>
              intro τ hm
              show wipe ((wipe τ us).set u none) vs = _
              rw [wipe_set (hm u List.mem_cons_self), ih τ fun i m => hm i (List.mem_cons_of_mem _ m)]
          exact idem vs σ fun _ m => m
        · cases vb
          have hr4 := hr3
          rw [ec] at hr4
          have keepD : ∀ {w' : Wd} {H' : Hp} {wa : Wd} {Ha : Hp} {va : List L2.V}, Step wa Ha w' H' → Ha Da = some (.lst va) → wa.F Da = none → Da ∉ wa.ρ → H' Da = some (.lst va) ∧ w'.F Da = none ∧ Da ∉ w'.ρ := by
            intro w' H' wa Ha va st da fa ra
            refine ⟨st.keep _ _ ra (fun _ z => nomatch z) da, ?_, fun m => ?_⟩
            · cases z : w'.F Da with
              | none => rfl
              | some o =>
                rcases st.nf Da o z with z2 | z2
                · rw [fa] at z2; cases z2
                · rw [da] at z2; cases z2
            · rcases st.new Da m with z2 | z2
              · exact ra z2
              · rw [da] at z2; cases z2
          obtain ⟨d3, f3, r3⟩ := keepD s3 d2 f2 r2
          cases b with
          | false => exact ⟨hl, w3, h3, acc, vacc, ok3, s2.trans s3, wk.up _ _ _ _ s3 v2, d3, f3, r3, a2.mono s3, hr4⟩
          | true =>
            have hr5 : ((e e3 h3).bindN fun y h2 => if acc.length < sizeLine then compL gd vs mg c e env (xs.drop (i + 1)) h2 (acc ++ [y]) else .stuck) = r := hr4
            rw [if_pos rfl]
            refine he _ _ _ ⟨w3, e3, h3, ok3, er2.mono s3, Post.bindN (f := fun y h2 => if acc.length < sizeLine then compL gd vs mg c e env (xs.drop (i + 1)) h2 (acc ++ [y]) else .stuck) (δ := D) (by rw [hr5]; exact ns) fun z dz w4 H4 h4 ee s4 ok4 rz => ?_⟩
            rw [ee] at hr5
            have hr6 : (if acc.length < sizeLine then compL gd vs mg c e env (xs.drop (i + 1)) h4 (acc ++ [dz]) else .stuck) = r := hr5
            obtain ⟨d4, f4, r4⟩ := keepD s4 d3 f3 r3
            by_cases hz : acc.length < sizeLine
            · rw [if_pos hz] at hr6
              exact ⟨vacc, d4, by rw [a2.length]; exact hz, hl, w4, h4, acc ++ [dz], vacc ++ [z], ok4.put (fun o e => by rw [d4] at e; cases e; exact fun _ z => nomatch z) f4 r4, ((s2.trans s3).trans s4).put hD, wk.up _ _ _ _ s4 (wk.up _ _ _ _ s3 v2), upd_same, f4, r4, VRs.append ((a2.mono s3).mono s4) (.cons rz .nil), hr6⟩
            · rw [if_neg hz] at hr6
              exact absurd hr6.symm ns
    · rw [if_neg g0] at hr2
      exact absurd hr2.symm ns
  · have ei : i = xs.length := by omega
    subst ei
    rw [List.drop_length] at hr2
    unfold compL at hr2
    by_cases g0 : gd h2
    · rw [if_pos g0] at hr2
      refine .inl ⟨wk.stops w2 H2 h2 ok2 v2 g0, ?_⟩
      rw [← hr2] at p1
      refine p1 (.ref Da) ⟨upd w2.F Da (.lst vacc), w2.ρ⟩ H2 ⟨fun a o x => ?_, s2.r, s2.keep, s2.dom, s2.new, fun a o x => ?_⟩ (ok2.freeze d2 (fun _ z => nomatch z) f2 r2) (.lst upd_same ?_)
      · have x2 := s2.f a o x
        show upd w2.F Da _ a = some o
        rw [upd_ne (ne_of_none x2 f2)]
        exact x2
      · have x' : upd w2.F Da (.lst vacc) a = some o := x
        by_cases z : a = Da
        · subst z; exact .inr hD
        · rw [upd_ne z] at x'
          exact s2.nf a o x'
      · refine VRs.mono' (w := w2) (w' := ⟨upd w2.F Da (.lst vacc), w2.ρ⟩) (fun a o x => ?_) (fun _ _ x => x) a2
        show upd w2.F Da _ a = some o
        rw [upd_ne (ne_of_none x f2)]
        exact x
    · rw [if_neg g0] at hr2
      exact absurd hr2.symm ns
section
variable {X : Cx} {W : WX} {elt tg iter : Expr} {ifs : List Expr} {scope : Scope} {own : List (Str × Nat)} {pos spos : Pos} {s : MI} {g : TG} {mg : MG} {us : List Nat} {c : MT} {e : ME}
theorem ts_nil [Tbl] : PTs X [] (tT X.K X.mg W mYes) := by
  refine ⟨fun pins s σ H Q I h => pts_nil.run pins s σ H Q I ?_⟩
  obtain ⟨w, env, h, ok, er, p⟩ := h
  exact p.ok ok rfl
theorem ts_one [Tbl] {t : Expr} {m : MT} (h : PT X t (tT X.K X.mg W m)) : PTs X [t] (tT X.K X.mg W m) := pts_one h
theorem e_comp [Tbl] (hc : X.calm = true) (hN : X.N.Nodup) (ok : BlkOk X.N X.env.scope scope own) (hu : ∀ i ∈ us, i ∈ own.map (·.2)) (hb : TgS X.K g mg us) (hi : PI X tg iter (tI X.K X.mg W s))
    (hg : ∀ (s : Shared) (H : Hp) (C : Addr) (cl : List (Str × Addr)) (fp : List Addr), PG (X.blk s H scope (compEnvC scope cl C X.env) fp) tg g) (ht : ∀ (s : Shared) (H : Hp) (C : Addr) (cl : List (Str × Addr)) (fp : List Addr), PTs (X.blk s H scope (compEnvC scope cl C X.env) fp) ifs (tT X.K X.mg W0 c))
    (he : ∀ (s : Shared) (H : Hp) (C : Addr) (cl : List (Str × Addr)) (fp : List Addr), PE (X.blk s H scope (compEnvC scope cl C X.env) fp) elt (tE X.K X.mg W0 e)) (hs : ∀ x, foldedSetIterable iter X.env x = pure x := by intro _; rfl) :
    PE X (.ListComp elt [⟨tg, iter, ifs, 0⟩] scope pos) (tE X.K X.mg W (mComp s (own.map (·.2)) mg c e)) := PE.imp (pe_lc hc hN hi ok hg ht he hs) (t_comp (fun _ _ _ h => h) hb hu (fun _ _ _ h => h) fun _ _ _ h => h)
theorem s_setC [Tbl] {i : Nat} {y : Str} {py : Pos} (hc : X.calm = true) (hN : X.N.Nodup) (hy : X.N[i]? = some y) (hyl : X.env.scope.names.lookup y = some .local) (hsw : swapsWith (.ListComp elt [⟨tg, iter, ifs, 0⟩] scope pos) (some (.Name y py)) spos.line X.env = pure true)
    (ok : BlkOk X.N X.env.scope scope own) (hu : ∀ i ∈ us, i ∈ own.map (·.2)) (hb : TgS X.K g mg us) (hi : PI X tg iter (tI X.K X.mg W s))
    (hg : ∀ (s : Shared) (H : Hp) (C : Addr) (cl : List (Str × Addr)) (fp : List Addr), PG (X.blk s H scope (compEnvC scope cl C X.env) fp) tg g) (ht : ∀ (s : Shared) (H : Hp) (C : Addr) (cl : List (Str × Addr)) (fp : List Addr), PTs (X.blk s H scope (compEnvC scope cl C X.env) fp) ifs (tT X.K X.mg W0 c))
    (he : ∀ (s : Shared) (H : Hp) (C : Addr) (cl : List (Str × Addr)) (fp : List Addr), PE (X.blk s H scope (compEnvC scope cl C X.env) fp) elt (tE X.K X.mg W0 e)) (hs : ∀ x, foldedSetIterable iter X.env x = pure x := by intro _; rfl) :
    PS X (.Assign [.Name y py] (.ListComp elt [⟨tg, iter, ifs, 0⟩] scope pos) spos) (tS X.K X.mg W (mAsg (mComp s (own.map (·.2)) mg c e) (gNm i))) := PS.imp (ps_setLc hc hN hy hyl hsw hi ok hg ht he hs) (t_asg (t_comp (fun _ _ _ h => h) hb hu (fun _ _ _ h => h) fun _ _ _ h => h) (g_nm i))
end

/-! ### a def -/
def env0 (n : Nat) (ds : List D) : Env := ds.map some ++ List.replicate (n - ds.length) none
def outS (r : RS) : Rs D := match r with
  | .nx _ h => .ok .non h
  | .rt d h => .ok d h
  | .er c fs _ h => .err c fs h
  | _ => .stuck
def run (n : Nat) (b : MS) : MF := fun ds h => outS (b (env0 n ds) h)
theorem env0_ok {K : PySem.W.Frag} {w : Wd} {N : List Str} {vs : List V} {ds : List D} (r : VRs K w vs ds) : EnvR K w (L2.start N vs) (env0 N.length ds) := by
  unfold L2.start env0
  rw [r.length]
  refine ⟨by simp [r.length], fun i d e => ?_⟩
  by_cases hi : i < ds.length
  · rw [List.getElem?_append_left (by simpa using hi)] at e
    rw [List.getElem?_append_left (by simpa [r.length] using hi)]
    rw [List.getElem?_map] at e ⊢
    cases q : ds[i]? with
    | none => rw [q] at e; cases e
    | some y =>
      rw [q] at e
      cases e
      obtain ⟨x, e1, r1⟩ := r.get' q
      exact ⟨x, by rw [e1]; rfl, r1⟩
  · rw [List.getElem?_append_right (by simpa using hi), List.getElem?_replicate] at e
    split at e <;> cases e
section
variable {P : Program} {wd : World} {K : PySem.W.Frag} {mg : Str → Option Value} {base : Heap}
/-- a def by its body, where what it lets out has no context -/
theorem fnOk_of {x qual : Str} {st : Stmt} {f : Addr} {fd : FuncData} {N ps : List Str} {k : Nat} {sp : Sp} (F : Fun K x qual st f fd) (S : FnScope N ps (defScope st)) (hl : ∀ vs H Q E, sp vs H Q E → vs.length = ps.length)
    (hb : ∀ (cdv : Value) (A : Around) (outer : List PySem.Env) (s : Shared) (H : Hp) (vs : List V) (Q : VK) (E : XK), Room k (A.deeper (envOfC qual (defScope st) s.heap.objs.size f cdv)) → sp vs H Q E →
      ∃ t, PSs (cxOf (L2N.CX P wd) P wd K mg base N qual (defScope st) f cdv A outer s H E) (defBody st) t ∧ t ⟨fun _ H' => Q .non H', Q, fun _ _ => False, fun _ _ => False⟩ (L2.start N vs) H) : FnOk P wd K mg base (L2N.CX P wd) (k + 1) f fd ps sp := by
  obtain ⟨c1, c2, c3, c4, c5, c6, c7, c8, c9, rfl, l, hc⟩ := F.ex
  exact fn_of l hc S hl fun A outer s H vs Q E r z => hb c7 A outer s H vs Q E r z
theorem ok_fn [Tbl] {x qual : Str} {st : Stmt} {f : Addr} {fd : FuncData} {N ps : List Str} {k : Nat} {b : MS} (F : Fun K x qual st f fd) (S : FnScope N ps (defScope st))
    (hbody : ∀ (cdv : Value) (A : Around) (outer : List PySem.Env) (s : Shared) (H : Hp) (E : XK), Room k (A.deeper (envOfC qual (defScope st) s.heap.objs.size f cdv)) →
      PSs (cxOf (L2N.CX P wd) P wd K mg base N qual (defScope st) f cdv A outer s H E) (defBody st) (tS K gm (fun cls d _ H => E cls d H) b)) : FnOk P wd K mg base (L2N.CX P wd) (k + 1) f fd ps (spM K gm ps.length (run N.length b)) := by
  refine fnOk_of F S (fun vs H Q E h => h.1) fun cdv A outer s H vs Q E hr h => ?_
  obtain ⟨hl, w, ds, h, ok, r, p⟩ := h
  refine ⟨_, hbody cdv A outer s H E hr, w, env0 N.length ds, h, ok, env0_ok r, ?_⟩
  unfold run at p
  revert p
  cases b (env0 N.length ds) h with
  | nx e1 h1 => exact fun p σ' w' H' s ok' er' => p _ _ _ s ok' .non
  | bk e1 h1 => exact fun p => p.elim
  | ct e1 h1 => exact fun p => p.elim
  | rt e1 h1 => exact fun p => p
  | er c fs e1 h1 => exact fun p cv d σ' w' H' hc s ok' er' x => p cv d w' H' hc s ok' x
  | stuck => exact fun p => p
end
end
end Vi

set_option Elab.async false
set_option linter.all false
set_option autoImplicit false
set_option maxRecDepth 100000
set_option maxHeartbeats 2000000
namespace Vi
open PySem PySem.Spec PyProof.Rows L2
open scoped Classical
noncomputable section
/-! ### the text by places -/
/-- a def of the text as the top has left it -/
def Has (K : PySem.W.Frag) (mg : Str → Option Value) (x : Str) (st : Stmt) (ps : List Str) : Prop := ∃ f fd, Fun K x x st f fd ∧ mg x = some (.ref f) ∧ Binds K fd ps []
/-- .. and what it does -/
structure OkF [Tbl] (P : Program) (wd : World) (K : PySem.W.Frag) (mg : Str → Option Value) (base : Heap) (x : Str) (k n : Nat) (m : MF) : Prop where
  ex : ∃ f fd ps, mg x = some (.ref f) ∧ PySem.W.keepIn K (.ref f) = true ∧ Binds K fd ps [] ∧ FnOk P wd K mg base (L2N.CX P wd) k f fd ps (spM K mg n m)
section
variable {P : Program} {wd : World} {K : PySem.W.Frag} {mg : Str → Option Value} {base : Heap}
theorem OkF.mk' [Tbl] {x : Str} {st : Stmt} {N ps : List Str} {k n z : Nat} {b : MS} {m : MF} (h : Has K mg x st ps) (S : FnScope N ps (defScope st)) (hn : ps.length = n) (hN : N.length = z) (hm : m = run z b)
    (hbody : ∀ (f : Addr) (cdv : Value) (A : Around) (outer : List PySem.Env) (s : Shared) (H : Hp) (E : XK), Room k (A.deeper (envOfC x (defScope st) s.heap.objs.size f cdv)) →
      PSs (cxOf (L2N.CX P wd) P wd K mg base N x (defScope st) f cdv A outer s H E) (defBody st) (tS K mg (fun cls d _ H => E cls d H) b)) : OkF P wd K mg base x (k + 1) n m := by
  obtain ⟨f, fd, F, hf, hb⟩ := h
  subst hn hN hm
  exact ⟨f, fd, ps, hf, F.kp, hb, ok_fn F S (hbody f)⟩
theorem OkF.zero [Tbl] {x : Str} {st : Stmt} {ps : List Str} {k n : Nat} (h : Has K mg x st ps) (hn : ps.length = n) : OkF P wd K mg base x k n (fun _ _ => .stuck) := by
  obtain ⟨f, fd, F, hf, hb⟩ := h
  subst hn
  exact ⟨f, fd, ps, hf, F.kp, hb, fun vs H Q E h => h.1, fun A outer s H args us vs Q E _ _ _ _ ⟨_, _, _, _, _, _, p⟩ => p.elim⟩
theorem okfn' [Tbl] {x : Str} {st : Stmt} {f : Addr} {fd : FuncData} {N ps : List Str} {k n z : Nat} {b : MS} {m : MF} (F : Fun K x x st f fd) (S : FnScope N ps (defScope st)) (hn : ps.length = n) (hN : N.length = z) (hm : m = run z b)
    (hbody : ∀ (cdv : Value) (A : Around) (outer : List PySem.Env) (s : Shared) (H : Hp) (E : XK), Room k (A.deeper (envOfC x (defScope st) s.heap.objs.size f cdv)) →
      PSs (cxOf (L2N.CX P wd) P wd K mg base N x (defScope st) f cdv A outer s H E) (defBody st) (tS K mg (fun cls d _ H => E cls d H) b)) : FnOk P wd K mg base (L2N.CX P wd) (k + 1) f fd ps (spM K mg n m) := by
  subst hn hN hm
  exact ok_fn F S hbody
theorem has_of {h : Heap} (X : K.In h) (G : h.Ns mainGlobals mg) {x : Str} {st : Stmt} {ps : List Str} {f : Addr} {oc : Value} {od an : Option Addr} {osl : Array (Option Value)} {kV doc pm cdv ct : Value}
    (a : PySem.W.nsIn K mainGlobals x = some (some (.ref f))) (l : K.lookup f = some ⟨oc, od, .func (PySem.W.fnOf x x (defArgs st) (defBody st) (defScope st) .none kV doc pm an cdv ct), osl⟩) (c : PySem.W.codeIn K cdv x = true) (k : PySem.W.keepIn K (.ref f) = true)
    (hb : ∀ (kV doc pm : Value) (an : Option Addr) (cdv ct : Value) (us : List Value), us.length = ps.length → bindArgs (PySem.W.fnOf x x (defArgs st) (defBody st) (defScope st) .none kV doc pm an cdv ct) ⟨us, []⟩ = pure (ps.zip us)) : Has K mg x st ps :=
  ⟨f, _, fun_mk l c k, PySem.W.mg_of X G a, (fun_mk l c k).binds hb⟩
end
section
variable {X : Cx} {W : WX} {k j n : Nat} {x : Str} {p pos : Pos} {e : Expr} {es : List Expr} {m : MF} {ma : MA}
theorem e_f [Tbl] (F : OkF X.prog X.w X.K X.mg X.base x k n m) (hr : Room j X.A) (hk : k ≤ j) (tk : L2N.Takes X W) (ha : PA X (e :: es) (tA X.K X.mg W ma)) (hn : ∀ env h ds h', ma env h = .ok ds h' → ds.length = n) (hg : Gl X x) (hdb : (x == ("__debug__" : Str)) = false := by decide)
    (he : starEach (e :: es) X.env = (false, eval e X.env) :: starEach es X.env := by rfl) (hpl : (backTo pos (starEach es X.env)).any (·.1) = false := by rfl) : PE X (.Call (.Name x p) (e :: es) [] pos) (tE X.K X.mg W (mCall m ma)) := by
  obtain ⟨f, fd, ps, hm, kp, hb, F⟩ := F.ex
  exact e_call F (hr.mono hk) hm kp hb tk ha hn hg hdb he hpl
end
theorem bl_len : bootBuiltins "len" = some (.builtin "len") := by decide +kernel
theorem bl_abs : bootBuiltins "abs" = some (.builtin "abs") := by decide +kernel
theorem bl_int : bootBuiltins "int" = some (.type "int") := by decide +kernel
theorem bl_bool : bootBuiltins "bool" = some (.type "bool") := by decide +kernel
theorem bl_str : bootBuiltins "str" = some (.type "str") := by decide +kernel
theorem bl_list : bootBuiltins "list" = some (.type "list") := by decide +kernel
theorem bl_tuple : bootBuiltins "tuple" = some (.type "tuple") := by decide +kernel
theorem bl_any : bootBuiltins "any" = some (.builtin "any") := by decide +kernel
theorem bl_isinstance : bootBuiltins "isinstance" = some (.builtin "isinstance") := by decide +kernel
theorem bl_sorted : bootBuiltins "sorted" = some (.builtin "sorted") := by decide +kernel
/-! ### the end -/
/-- the law's own promise, from what its body does on data -/
def spL [Tbl] (K : PySem.W.Frag) (n : Nat) (m : MF) : Sp := fun vs H Q _ => vs.length = n ∧ ∃ w ds h d h', Ok K w H h ∧ VRs K w vs ds ∧ m ds h = .ok d h' ∧ ∀ v w' H', Step w H w' H' → Ok K w' H' h' → VR K w' v d → Q v H'
theorem law_walk {l : PySem.W.OpenLaw} {k : Nat} {q : Program} {loose : List Str} {XP : (Str → Option Value) → Heap → Prop} {YP : World → Heap → Prop} {d : DefRec} {K : Params → PySem.W.Frag} {m : MF} {x : Str}
    (hn : l.most = some 63) (hdf : d.params.defaults = []) (hr : Room k callerA) (hY : ∀ (w : World) (h : Heap), YP w h → (K w.params).In h)
    (F : ∀ (_ : Tbl) (w : World) (mg : Str → Option Value) (fa : Addr) (h : Heap), (K w.params).In h → h.Ns mainGlobals mg → mg d.name = some (.ref fa) →
      ∃ fd : FuncData, (∀ (s : Shared) (u : Value), BindsTo s fd ⟨[u], []⟩ [(x, u)]) ∧ ∀ base : Heap, (K w.params).In base → base.Ns mainGlobals mg → FnOk l.prog w (K w.params) mg base (L2N.CX l.prog w) k fa fd [x] (spM (K w.params) mg 1 m))
    (hm : ∀ ns : List Int, ns.length ≤ 63 → ∃ h, m [.klst (ns.map .int)] [] = .ok (.bl true) h) : PySem.W.WalkO q loose XP YP l.row.toRowW d [] (fun f vs => PySem.call f vs) := by
  let T : Tbl := ⟨[]⟩
  refine L2.walk_of (n := 63) (k := k) (x := x) (CX := fun w => L2N.CX l.prog w) (sp := fun w => spL (K w.params) 1 m) hn (by decide) hdf hr hY (fun w mg fa h a b c => ?_) (fun w H a ns hl _ hS => ?_) fun w H s e s' z => ?_
  · obtain ⟨fd, h1, h2⟩ := F T w mg fa h a b c
    refine ⟨fd, h1, fun base b1 b2 => (h2 base b1 b2).imp fun vs H Q E ⟨hl, w', ds, h, dd, h', ok, r, e, q⟩ => ⟨hl, w', ds, h, ok, r, ?_⟩⟩
    rw [e]
    exact q
  · obtain ⟨h, e⟩ := hm ns hl
    refine ⟨rfl, ⟨H, []⟩, [.klst (ns.map .int)], [], _, _, ⟨fun _ _ e => e, rfl, fun i a c e => by simp at e, by simp, fun p m => by simp [T, Tbl.T] at m⟩, .cons (.klst hS VRs.of_ints) .nil, e, ?_⟩
    intro v w' H' _ _ r
    cases r
    rfl
  · obtain ⟨_, _, _, _, _, _, _, _, _, _, _, _, z⟩ := z
    exact z.elim
/-- .. of a text whose defs make lambdas: cs, their codes, tables, the lambdas' names -/
def unTbl (H : Hp) : Hp := fun a => match H a with
  | some (.tbl _) => none
  | o => o
theorem unTbl_sub {H : Hp} {a : Addr} {o : HO} (e : unTbl H a = some o) : H a = some o := by
  unfold unTbl at e
  split at e
  · cases e
  · exact e
theorem unTbl_of {H : Hp} {a : Addr} {o : HO} (e : H a = some o) (n : NT o) : unTbl H a = some o := by
  unfold unTbl
  split
  · next ps q => rw [e] at q; cases q; exact absurd rfl (n ps)
  · exact e
theorem law_walkT {l : PySem.W.OpenLaw} {k : Nat} {q : Program} {loose : List Str} {XP : (Str → Option Value) → Heap → Prop} {YP : World → Heap → Prop} {d : DefRec} {K : Params → PySem.W.Frag} {m : MF} {x : Str}
    (hn : l.most = some 63) (hdf : d.params.defaults = []) (hr : Room k callerA) (hY : ∀ (w : World) (h : Heap), YP w h → (K w.params).In h)
    (F : ∀ (w : World) (mean : ExcName → Option Value) (mg mb : Str → Option Value) (fa : Addr) (h : Heap), (K w.params).In h → Top q (PySem.W.looseW q loose) mean mg mb h → mg d.name = some (.ref fa) →
      ∃ (cs : List (Addr × Addr × Str)) (fd : FuncData), (∀ p ∈ cs, h.get? p.2.1 = some { cls := .none, data := .fields #[] } ∧ (K w.params).lookup p.2.1 = none ∧ PySem.W.CodeHd h p.1 p.2.1) ∧ (∀ (s : Shared) (u : Value), BindsTo s fd ⟨[u], []⟩ [(x, u)]) ∧
        ∀ base : Heap, (K w.params).In base → base.Ns mainGlobals mg → (∀ p ∈ cs, LamX.TabB base mg p.1 p.2.1) → FnOk l.prog w (K w.params) mg base (L2N.CX l.prog w) k fa fd [x] (@spM ⟨cs.map (·.2)⟩ (K w.params) mg 1 m))
    (hm : ∀ ns : List Int, ns.length ≤ 63 → ∃ h, m [.klst (ns.map .int)] [] = .ok (.bl true) h) : PySem.W.WalkO q loose XP YP l.row.toRowW d [] (fun f vs => PySem.call f vs) := by
  refine Att.attach_callB hn hdf fun w s₀ s₁ mg mb fa o pm cd doc a vs ns G Y ho hd hcd hmg hobj hints hlen hbits hg => ?_
  have KX := hY w _ Y
  obtain ⟨cs, fd, hf, hb, hF⟩ := F w _ mg mb fa _ KX G.T hmg
  let T : Tbl := ⟨cs.map (·.2)⟩
  have two : ∀ p ∈ cs.map (fun p => (p.1, p.2.1)), ∃ q, (p.1, p.2, q) ∈ cs := fun p m => by
    obtain ⟨r, hr, rfl⟩ := List.mem_map.mp m
    exact ⟨r.2.2, hr⟩
  refine LamX.law_callTs (CX := L2N.CX l.prog w) (cs := cs.map fun p => (p.1, p.2.1)) (sp := spL (K w.params) 1 m) (x := x) (ns := ns) KX G.T.g G.T.b G.T.builtins G.T.nolimit hg (fun p m => ?_) (fun p m => ?_) (fun p m => ?_) G.T.bmain hobj hints (Nat.le_trans hlen (by decide)) hr (fun base b1 b2 b3 => ?_) hb (fun H hT hS => ?_) fun H e s' z => ?_
  · obtain ⟨q, m⟩ := two p m; exact (hf _ m).1
  · obtain ⟨q, m⟩ := two p m; exact (hf _ m).2.1
  · obtain ⟨q, m⟩ := two p m; exact (hf _ m).2.2
  · refine (hF base b1 b2 fun p m => b3 (p.1, p.2.1) (List.mem_map.mpr ⟨p, m, rfl⟩)).imp fun vs H Q E ⟨hl, w', ds, h, dd, h', ok, r, e, q⟩ => ⟨hl, w', ds, h, ok, r, ?_⟩
    rw [e]
    exact q
  · obtain ⟨h, e⟩ := hm ns hlen
    have hS' : SqL (K w.params) (unTbl H) a (ns.map V.int) := by
      rcases hS with (z | ⟨o, z⟩) | z
      · exact .inl (.inl (unTbl_of z fun _ z => nomatch z))
      · exact .inl (.inr ⟨o, unTbl_of z fun _ z => nomatch z⟩)
      · exact .inr z
    refine ⟨rfl, ⟨unTbl H, []⟩, [.klst (ns.map .int)], [], _, _, ⟨fun _ _ e => unTbl_sub e, rfl, fun i a c e => by simp at e, by simp, fun p m => ?_⟩, .cons (.klst hS' VRs.of_ints) .nil, e, ?_⟩
    · have m : p ∈ cs.map (·.2) := m
      obtain ⟨r, hr, rfl⟩ := List.mem_map.mp m
      have z := hT (r.1, r.2.1) (List.mem_map.mpr ⟨r, hr, rfl⟩)
      have z : H r.2.1 = some (.tbl #[]) := z
      refine ⟨by show unTbl H r.2.1 = none; unfold unTbl; rw [z], #[], z, True.intro, fun pos cv hc => ?_⟩
      have hc : PySem.codeAmong pos [] = some cv := hc
      simp [PySem.codeAmong] at hc
    intro v w' H' _ _ r
    cases r
    rfl
  · obtain ⟨_, _, _, _, _, _, _, _, _, _, _, _, z⟩ := z
    exact z.elim
end
end Vi

set_option Elab.async false
set_option linter.all false
set_option autoImplicit false
set_option maxRecDepth 100000
set_option maxHeartbeats 2000000
namespace Vi
open PySem PySem.Spec PyProof.Rows L2
open scoped Classical
noncomputable section
/-! ### sorted -/
def pyd (d : D) : PyData := d.py.getD .none
/-- the order of data of one shape -/
def leD : D → D → Bool := PySem.W.dataLe false pyd
structure Srt (xs : List D) : Prop where
  py : ∀ x ∈ xs, x.py = some (pyd x)
  alike : PySem.W.AllAlike (xs.map pyd)
  able : PySem.W.Sortable (xs.map pyd)
  deep : ∀ x ∈ xs, (pyd x).depth ≤ 40
  few : xs.length ≤ sizeLine
def dSorted : List D → Hap → Option D := fun ds h => match ds with
  | [d] => (getL d h).bind fun xs => if Srt xs then some (.lst (xs.mergeSort leD)) else none
  | _ => none
def rSortD (K : PySem.W.Frag) : List V → Hp → VK → Prop := fun vs H Q => ∃ (a : Addr) (xs : List V) (ds : List D), vs = [V.ref a] ∧ SqL K H a xs ∧ xs.length = ds.length ∧ (∀ p ∈ xs.zip ds, Dp K H p.1 (pyd p.2)) ∧ PySem.W.AllAlike (ds.map pyd) ∧ PySem.W.Sortable (ds.map pyd) ∧ (∀ x ∈ ds, (pyd x).depth ≤ 40) ∧ ds.length ≤ sizeLine ∧
  ∀ p, H p = none → Q (.ref p) (upd H p (.lst (((xs.zip ds).mergeSort (PySem.W.dataLe false fun b => pyd b.2)).map Prod.fst)))
theorem each_zip : ∀ {xs : List V} {us : List Value} {ds : List D}, Vals xs us → xs.length = ds.length → PySem.W.EachIs (fun (u : Value) (b : V × D) => RelV b.1 u) us (xs.zip ds)
  | _, _, [], .nil, _ => .nil
  | _, _, _ :: _, .cons r t, h => .cons r (each_zip t (by simpa using h))
theorem vals_of_each : ∀ {us : List Value} {bs : List (V × D)}, PySem.W.EachIs (fun (u : Value) (b : V × D) => RelV b.1 u) us bs → Vals (bs.map Prod.fst) us
  | _, _, .nil => .nil
  | _, _, .cons a b => .cons a (vals_of_each b)
section
variable {X : Cx}
theorem cr_sortD (hu : X.A.units + 64 < cLine) : CallR X (.builtin "sorted") (rSortD X.K) := by
  intro pins s σ H vs us Q I r h
  obtain ⟨a, xs, ds, rfl, hs, hlen, hd, hal, hab, hdp, hfew, q⟩ := h
  obtain ⟨its, rv, hl, hz⟩ := I.list hs
  obtain ⟨u, rfl, ru⟩ := vals1 r
  obtain rfl : u = Value.ref a := ru
  have e := each_zip rv hlen
  have zs : (xs.zip ds).map Prod.snd = ds := by rw [List.map_snd_zip]; omega
  have zm : (xs.zip ds).map (fun b => pyd b.2) = ds.map pyd := by
    conv => rhs; rw [← zs]
    rw [List.map_map]
    rfl
  refine PySem.W.sorted_data (enc := fun b : V × D => pyd b.2) hl.isList e ?_ (by rw [zm]; exact hal) (by rw [zm]; exact hab) ?_ ?_ fun out ho eo => ?_
  · have go : ∀ {us : List Value} {bs : List (V × D)}, PySem.W.EachIs (fun (u : Value) (b : V × D) => RelV b.1 u) us bs → (∀ b ∈ bs, Dp X.K H b.1 (pyd b.2)) → PySem.W.EachIs (fun v b => ∃ as, Reads s.heap v (pyd b.2) as) us bs := by
      intro us bs z
      induction z with
      | nil => exact fun _ => .nil
      | cons r t ih =>
        intro hb
        exact .cons (Dp.reads I _ _ _ (hb _ List.mem_cons_self) r) (ih fun b m => hb b (List.mem_cons_of_mem _ m))
    exact go e hd
  · rw [List.length_zip]
    omega
  · intro b hb
    have m : b.2 ∈ ds := by rw [← zs]; exact List.mem_map.mpr ⟨b, hb, rfl⟩
    have := hdp b.2 m
    omega
  · have vo := vals_of_each eo
    have hf : H (s.heap.objs.size + 1) = none := I.hok.fresh (Nat.le_succ _)
    have lz : (xs.zip ds).length ≤ sizeLine := by rw [List.length_zip]; omega
    refine ⟨.ref (s.heap.objs.size + 1), _, I.laid (t' := s.toks) (fun b o x => ?_) (Nat.le_succ _) ?_, rfl, q _ hf⟩
    · exact sortedAll_old x
    · obtain ⟨n, hn⟩ := sortedAll_at s.heap its (List.toArray out)
      exact ⟨by rw [List.length_map, List.length_mergeSort]; exact lz, out, n, vo, hn⟩
end
theorem VRs.zip_ok {K : PySem.W.Frag} {w : Wd} : ∀ {xs : List V} {ds : List D}, VRs K w xs ds → ∀ p ∈ xs.zip ds, VR K w p.1 p.2
  | _, _, .nil, _, m => by simp at m
  | _, _, .cons a b, p, m => by
    rcases List.mem_cons.mp m with rfl | m
    · exact a
    · exact VRs.zip_ok b p m
theorem vrs_of {K : PySem.W.Frag} {w : Wd} : ∀ {l : List (V × D)}, (∀ p ∈ l, VR K w p.1 p.2) → VRs K w (l.map Prod.fst) (l.map Prod.snd)
  | [], _ => .nil
  | p :: l, h => .cons (h p List.mem_cons_self) (vrs_of fun q m => h q (List.mem_cons_of_mem _ m))
theorem zip_snd {xs : List V} {ds : List D} (h : xs.length = ds.length) : (xs.zip ds).map Prod.snd = ds := by rw [List.map_snd_zip]; omega
theorem sort_vrs {K : PySem.W.Frag} {w : Wd} {xs : List V} {ds : List D} (r : VRs K w xs ds) : VRs K w (((xs.zip ds).mergeSort (PySem.W.dataLe false fun b => pyd b.2)).map Prod.fst) (ds.mergeSort leD) := by
  have e : ((xs.zip ds).mergeSort (PySem.W.dataLe false fun b => pyd b.2)).map Prod.snd = ds.mergeSort leD := by
    have z := PySem.W.sort_maps (r := PySem.W.dataLe false fun b : V × D => pyd b.2) (s := leD) Prod.snd (l := xs.zip ds) fun _ _ _ _ => rfl
    rw [z, zip_snd r.length]
  rw [← e]
  exact vrs_of fun p m => r.zip_ok p (List.mem_mergeSort.mp m)
theorem s_sorted [Tbl] {K : PySem.W.Frag} : CallS K (rSortD K) dSorted := by
  intro w H h xs ds d Q ok vr e q
  unfold dSorted at e
  split at e
  · obtain ⟨x, rfl, r⟩ := vrs1 vr
    obtain ⟨ys, e1, e2⟩ := Option.bind_eq_some_iff.mp e
    split at e2
    · next hS =>
      cases e2
      obtain ⟨p, vs, rfl, h1, r1⟩ := getL_ok ok r e1
      refine ⟨p, vs, ys, rfl, h1, r1.length, fun z m => ?_, hS.alike, hS.able, hS.deep, hS.few, fun l hl => q _ _ _ (ok.alloc hl).2 (ok.alloc hl).1 (vr_lst ok hl (sort_vrs r1))⟩
      have m2 : z.2 ∈ ys := by
        rw [← zip_snd r1.length]
        exact List.mem_map.mpr ⟨z, m, rfl⟩
      exact VR.dp ok.sub (r1.zip_ok z m) (hS.py _ m2)
    · cases e2
  · cases e
end
end Vi

set_option Elab.async false
set_option linter.all false
set_option autoImplicit false
set_option maxRecDepth 100000
set_option maxHeartbeats 2000000
namespace Vi
open PySem PySem.Spec PyProof.Rows L2
open scoped Classical
noncomputable section
variable {gm : Str → Option Value}
/-! ### a comprehension whose list is a cell -/
def mCompC (s : MI) (vs : List Nat) (g : MG) (c : MT) (e : ME) : ME := fun env h => (s env h).bind fun s h1 => (compL s.2 vs g c e env s.1 h1 []).bindN fun ys h2 => .ok (.ref h2.length) (h2 ++ [.lst ys])
/-- an object that was laid ahead becomes a cell -/
theorem Ok.adopt [Tbl] {K : PySem.W.Frag} {w : Wd} {H : Hp} {h : Hap} (ok : Ok K w H h) {p : Addr} {vs : List V} {c : Cel} (hp : H p = some (.lst vs)) (f0 : w.F p = none) (r0 : p ∉ w.ρ) {ds : List D} (hc : VRs K w vs ds) (ec : c = .lst ds := by rfl) : Ok K ⟨w.F, w.ρ ++ [p]⟩ H (h ++ [c]) := by
  subst ec
  have rm : ∀ (i : Nat) (a : Addr), w.ρ[i]? = some a → (w.ρ ++ [p])[i]? = some a := fun i a e => by
    rw [List.getElem?_append_left (List.getElem?_eq_some_iff.mp e).1]
    exact e
  refine ⟨ok.sub, by simp [ok.len], fun j a c' e1 e2 => ?_, ?_, ok.tab⟩
  · by_cases q : j < w.ρ.length
    · have e1' : (w.ρ ++ [p])[j]? = some a := e1
      rw [List.getElem?_append_left q] at e1'
      rw [List.getElem?_append_left (by rw [← ok.len]; exact q)] at e2
      exact (ok.cel j a c' e1' e2).up (w' := ⟨w.F, w.ρ ++ [p]⟩) (fun _ _ x => x) rm (fun z => z) rfl
    · have e1' : (w.ρ ++ [p])[j]? = some a := e1
      rw [List.getElem?_append_right (by omega)] at e1'
      rw [List.getElem?_append_right (by rw [← ok.len]; omega)] at e2
      have z : j - w.ρ.length = 0 := by
        have := (List.getElem?_eq_some_iff.mp e1').1
        simp at this
        omega
      rw [z] at e1'
      have z2 : j - h.length = 0 := by rw [← ok.len]; exact z
      rw [z2] at e2
      simp at e1' e2
      subst e1' e2
      exact ⟨f0, _, hp, VRs.mono' (w := w) (w' := ⟨w.F, w.ρ ++ [p]⟩) (fun _ _ x => x) rm hc⟩
  · show (w.ρ ++ [p]).Nodup
    rw [List.nodup_append]
    refine ⟨ok.nd, by simp, fun a m b m2 => ?_⟩
    rw [List.mem_singleton] at m2
    rw [m2]
    exact fun e => r0 (by rw [← e]; exact m)
theorem t_compC [Tbl] {K : PySem.W.Frag} {W : WX} {wi : TI} {s : MI} {g : TG} {mg : MG} {us vs : List Nat} {tt : TT} {te : TE} {c : MT} {e : ME} (hi : ∀ σ H Q, tI K gm W s σ H Q → wi σ H Q) (hg : TgS K g mg us) (hu : ∀ i ∈ us, i ∈ vs) (ht : ∀ σ H Q, tT K gm W0 c σ H Q → tt σ H Q) (he : ∀ σ H Q, tE K gm W0 e σ H Q → te σ H Q) :
    ∀ σ H Q, tE K gm W (mCompC s vs mg c e) σ H Q → tLc wi g tt te vs σ H Q := fun σ H Q ⟨w, env, h, ok, er, p⟩ => by
  refine hi _ _ _ ⟨w, env, h, ok, er, Post.bind p fun J s w1 H1 h1 s1 ok1 vr p1 => fun Da hD => ?_⟩
  obtain ⟨xs, gd⟩ := s
  obtain ⟨V, v0, wk⟩ := vr
  have er1 := er.mono s1
  obtain ⟨f0, r0⟩ := ok1.fresh hD
  generalize hr : compL gd vs mg c e env xs h1 [] = r at p1
  refine ⟨fun i m H => m = xs.length - i ∧ i ≤ xs.length ∧ ∃ w h acc vacc, Ok K w H h ∧ Step w1 H1 w H ∧ V w ∧ H Da = some (.lst vacc) ∧ w.F Da = none ∧ Da ∉ w.ρ ∧ VRs K w vacc acc ∧ compL gd vs mg c e env (xs.drop i) h acc = r,
    ⟨xs.length, by simp, Nat.zero_le _, w1, h1, [], [], ok1.put (fun o e => by rw [hD] at e; cases e) f0 r0, (Step.refl w1 H1).put hD, v0, upd_same, f0, r0, .nil, by simpa using hr⟩, ?_⟩
  rintro i m H2 ⟨rfl, hi, w2, h2, acc, vacc, ok2, s2, v2, d2, f2, r2, a2, hr2⟩
  have ns : r ≠ .stuck := fun z => by rw [z] at p1; exact p1
  by_cases hl : i < xs.length
  · rw [List.drop_eq_getElem_cons hl] at hr2
    unfold compL at hr2
    by_cases g0 : gd h2
    · rw [if_pos g0] at hr2
      refine .inr ⟨wk.goes w2 H2 h2 i ok2 v2 g0 hl, fun H => i + 1 ≤ xs.length ∧ ∃ w h acc vacc, Ok K w H h ∧ Step w1 H1 w H ∧ V w ∧ H Da = some (.lst vacc) ∧ w.F Da = none ∧ Da ∉ w.ρ ∧ VRs K w vacc acc ∧ compL gd vs mg c e env (xs.drop (i + 1)) h acc = r,
        fun H' z => ⟨xs.length - (i + 1), by omega, rfl, z⟩, fun y H' z => ?_⟩
      obtain ⟨w2, st2, ok2, el, e1, ry⟩ := wk.yields w2 H2 h2 i y H' ok2 v2 g0 hl z
      obtain ⟨d2, f2, r2⟩ := st2.own d2 f2 r2 fun _ z => nomatch z
      have v2 := wk.up _ _ _ _ st2 v2
      have a2 := a2.mono st2
      have s2 := s2.trans st2
      have e2 : xs[i] = el := by
        rw [List.getElem?_eq_getElem hl] at e1
        exact Option.some.inj e1
      rw [e2] at hr2
      cases q : mg el (wipeE env vs) h2 with
      | none => rw [q] at hr2; exact absurd hr2.symm ns
      | some e3 =>
        rw [q] at hr2
        have hr3 : ((c e3 h2).bindN fun t h1 => if t = true then (e e3 h1).bindN fun y h2 => if acc.length < sizeLine then compL gd vs mg c e env (xs.drop (i + 1)) h2 (acc ++ [y]) else .stuck
          else compL gd vs mg c e env (xs.drop (i + 1)) h1 acc) = r := hr2
        refine hg w2 _ h2 y el (wipe σ vs) (wipeE env vs) e3 _ ok2 ry (wipeE_env (er1.mono s2) vs) q fun σ2 er2 wp => ⟨?_, ht _ _ _ ⟨w2, e3, h2, ok2, er2, Post.bindN (f := fun t h1 => if t = true then (e e3 h1).bindN fun y h2 => if acc.length < sizeLine then compL gd vs mg c e env (xs.drop (i + 1)) h2 (acc ++ [y]) else .stuck
      else compL gd vs mg c e env (xs.drop (i + 1)) h1 acc) (δ := D) (by rw [hr3]; exact ns) fun b t w3 H3 h3 ec s3 ok3 vb => ?_⟩⟩
        · rw [wp vs hu]
          clear wp er2
          have idem : ∀ (us : List Nat) (τ : L2.St), (∀ i ∈ us, i ∈ vs) → wipe (wipe τ us) vs = wipe τ vs := by
            intro us
            induction us with
            | nil => intro τ _; rfl
            | cons u us ih =>
              intro τ hm
              show wipe ((wipe τ us).set u none) vs = _
              rw [wipe_set (hm u List.mem_cons_self), ih τ fun i m => hm i (List.mem_cons_of_mem _ m)]
          exact idem vs σ fun _ m => m
        · cases vb
          have hr4 := hr3
          rw [ec] at hr4
          have keepD : ∀ {w' : Wd} {H' : Hp} {wa : Wd} {Ha : Hp} {va : List L2.V}, Step wa Ha w' H' → Ha Da = some (.lst va) → wa.F Da = none → Da ∉ wa.ρ → H' Da = some (.lst va) ∧ w'.F Da = none ∧ Da ∉ w'.ρ := by
            intro w' H' wa Ha va st da fa ra
            refine ⟨st.keep _ _ ra (fun _ z => nomatch z) da, ?_, fun m => ?_⟩
            · cases z : w'.F Da with
              | none => rfl
              | some o =>
                rcases st.nf Da o z with z2 | z2
                · rw [fa] at z2; cases z2
                · rw [da] at z2; cases z2
            · rcases st.new Da m with z2 | z2
              · exact ra z2
              · rw [da] at z2; cases z2
          obtain ⟨d3, f3, r3⟩ := keepD s3 d2 f2 r2
          cases b with
          | false => exact ⟨hl, w3, h3, acc, vacc, ok3, s2.trans s3, wk.up _ _ _ _ s3 v2, d3, f3, r3, a2.mono s3, hr4⟩
          | true =>
            have hr5 : ((e e3 h3).bindN fun y h2 => if acc.length < sizeLine then compL gd vs mg c e env (xs.drop (i + 1)) h2 (acc ++ [y]) else .stuck) = r := hr4
            rw [if_pos rfl]
            refine he _ _ _ ⟨w3, e3, h3, ok3, er2.mono s3, Post.bindN (f := fun y h2 => if acc.length < sizeLine then compL gd vs mg c e env (xs.drop (i + 1)) h2 (acc ++ [y]) else .stuck) (δ := D) (by rw [hr5]; exact ns) fun z dz w4 H4 h4 ee s4 ok4 rz => ?_⟩
            rw [ee] at hr5
            have hr6 : (if acc.length < sizeLine then compL gd vs mg c e env (xs.drop (i + 1)) h4 (acc ++ [dz]) else .stuck) = r := hr5
            obtain ⟨d4, f4, r4⟩ := keepD s4 d3 f3 r3
            by_cases hz : acc.length < sizeLine
            · rw [if_pos hz] at hr6
              exact ⟨vacc, d4, by rw [a2.length]; exact hz, hl, w4, h4, acc ++ [dz], vacc ++ [z], ok4.put (fun o e => by rw [d4] at e; cases e; exact fun _ z => nomatch z) f4 r4, ((s2.trans s3).trans s4).put hD, wk.up _ _ _ _ s4 (wk.up _ _ _ _ s3 v2), upd_same, f4, r4, VRs.append ((a2.mono s3).mono s4) (.cons rz .nil), hr6⟩
            · rw [if_neg hz] at hr6
              exact absurd hr6.symm ns
    · rw [if_neg g0] at hr2
      exact absurd hr2.symm ns
  · have ei : i = xs.length := by omega
    subst ei
    rw [List.drop_length] at hr2
    unfold compL at hr2
    by_cases g0 : gd h2
    · rw [if_pos g0] at hr2
      refine .inl ⟨wk.stops w2 H2 h2 ok2 v2 g0, ?_⟩
      rw [← hr2] at p1
      have q2 := ok2.adopt (c := .lst acc) d2 f2 r2 a2
      refine p1 (.ref Da) ⟨w2.F, w2.ρ ++ [Da]⟩ H2 ⟨s2.f, ?_, s2.keep, s2.dom, fun a m => ?_, s2.nf⟩ q2 (.ref ?_)
      · obtain ⟨t, e⟩ := s2.r
        exact ⟨t ++ [Da], by rw [e, List.append_assoc]⟩
      · rcases List.mem_append.mp m with m | m
        · exact s2.new a m
        · rw [List.mem_singleton] at m
          rw [m]
          exact .inr hD
      · show (w2.ρ ++ [Da])[h2.length]? = some Da
        rw [← ok2.len, List.getElem?_append_right (Nat.le_refl _), Nat.sub_self]
        rfl
    · rw [if_neg g0] at hr2
      exact absurd hr2.symm ns
section
variable {X : Cx} {W : WX} {elt tg iter : Expr} {ifs : List Expr} {scope : Scope} {own : List (Str × Nat)} {pos spos : Pos} {s : MI} {g : TG} {mg : MG} {us : List Nat} {c : MT} {e : ME}
theorem s_setCC [Tbl] {i : Nat} {y : Str} {py : Pos} (hc : X.calm = true) (hN : X.N.Nodup) (hy : X.N[i]? = some y) (hyl : X.env.scope.names.lookup y = some .local) (hsw : swapsWith (.ListComp elt [⟨tg, iter, ifs, 0⟩] scope pos) (some (.Name y py)) spos.line X.env = pure true)
    (ok : BlkOk X.N X.env.scope scope own) (hu : ∀ i ∈ us, i ∈ own.map (·.2)) (hb : TgS X.K g mg us) (hi : PI X tg iter (tI X.K X.mg W s))
    (hg : ∀ (s : Shared) (H : Hp) (C : Addr) (cl : List (Str × Addr)) (fp : List Addr), PG (X.blk s H scope (compEnvC scope cl C X.env) fp) tg g) (ht : ∀ (s : Shared) (H : Hp) (C : Addr) (cl : List (Str × Addr)) (fp : List Addr), PTs (X.blk s H scope (compEnvC scope cl C X.env) fp) ifs (tT X.K X.mg W0 c))
    (he : ∀ (s : Shared) (H : Hp) (C : Addr) (cl : List (Str × Addr)) (fp : List Addr), PE (X.blk s H scope (compEnvC scope cl C X.env) fp) elt (tE X.K X.mg W0 e)) (hs : ∀ x, foldedSetIterable iter X.env x = pure x := by intro _; rfl) :
    PS X (.Assign [.Name y py] (.ListComp elt [⟨tg, iter, ifs, 0⟩] scope pos) spos) (tS X.K X.mg W (mAsg (mCompC s (own.map (·.2)) mg c e) (gNm i))) := PS.imp (ps_setLc hc hN hy hyl hsw hi ok hg ht he hs) (t_asg (t_compC (fun _ _ _ h => h) hb hu (fun _ _ _ h => h) fun _ _ _ h => h) (g_nm i))
end
/-! ### a comprehension within a comprehension -/
/-! ### xs.insert(i, y), xs a cell -/
end
end Vi

set_option Elab.async false
set_option linter.all false
set_option autoImplicit false
set_option maxRecDepth 100000
set_option maxHeartbeats 2000000
namespace Vi
open PySem PySem.Spec PyProof.Rows L2
open scoped Classical
noncomputable section
/-! ### what is not reached -/
section
variable {X : Cx} {W : WX}
/-! ### f() -/
/-! ### a tuple of texts of the module -/
end
/-! ### str(i) -/
def dStr : List D → Hap → Option D := fun ds _ => match ds with
  | [.int i] => if i.natAbs.log2 < 1920 then some (.str (toString i)) else none
  | _ => none
theorem s_str [Tbl] {K : PySem.W.Frag} : CallS K (fun xs H Q => ∃ i, xs = [.int i] ∧ i.natAbs.log2 < 1920 ∧ Q (.str (toString i)) H) dStr := by
  intro w H h xs ds d Q ok vr e q
  unfold dStr at e
  split at e
  · obtain ⟨x, rfl, r⟩ := vrs1 vr
    cases r
    split at e
    · next hl => cases e; exact ⟨_, rfl, hl, q _ _ _ (Step.refl _ _) ok (.str _)⟩
    · cases e
  · cases e
end
end Vi

set_option Elab.async false
set_option linter.all false
set_option autoImplicit false
set_option maxRecDepth 100000
set_option maxHeartbeats 2000000
namespace Vi
open PySem PySem.Spec PyProof.Rows L2
open scoped Classical
noncomputable section
variable {gm : Str → Option Value}
/-! ### a dict of texts of the module: x in NAME, x not in NAME, NAME[x] -/
def kvGet : List (Str × Str) → Str → Option Str
  | [], _ => none
  | (k, v) :: r, z => if k = z then some v else kvGet r z
structure KDt (K : PySem.W.Frag) (w : World) (a : Addr) (kvs : List (Str × Str)) : Prop where
  kd : ∃ es n, KDict K w a es n
  some_ : ∀ z v, kvGet kvs z = some v → ∃ t, PySem.W.nsIn K a z = some (some (.str v t))
  none_ : ∀ z, kvGet kvs z = none → PySem.W.nsIn K a z = some none
section
variable {X : Cx} {W : WX} {A : Addr} {kvs : List (Str × Str)} {x : Str} {e : Expr} {m : ME} {p pos : Pos}
end
end
end Vi

set_option Elab.async false
set_option linter.all false
set_option autoImplicit false
set_option maxRecDepth 100000
set_option maxHeartbeats 2000000
namespace Vi
open PySem PySem.Spec PyProof.Rows L2
open scoped Classical
noncomputable section
variable {gm : Str → Option Value}
/-! ### exceptions: nothing is let out -/
theorem none_out {X : Cx} : L2N.Takes X W0 := fun u s' ⟨_, _, _, _, _, _, _, _, _, _, _, _, _, _, _, _, z⟩ => z.elim
/-! ### raise C() -/
abbrev veMro : List Value := [.type "ValueError", .type "Exception", .type "BaseException", .type "object"]
/-- an own exception class without an own __init__ -/
structure ExK (K : PySem.W.Frag) (C : Addr) : Prop where
  x : PySem.W.excIn K C veMro "ValueError.__new__" = true
  k : PySem.W.keepIn K (.ref C) = true
  b : PySem.W.subIn K (.ref C) (.type "BaseException") = some true
  t : PySem.W.typeIn K (.ref C) = some (.type "type")
/-! ### raise C(..), C's __init__ stores its fields -/
/-- what such an __init__ does -/
def spIni (C : Addr) (ns : List Str) : Sp := fun vs H Q _ => vs.length = ns.length + 1 ∧ ∃ a ws, vs = .ref a :: ws ∧ ws.length = ns.length ∧ H a = some (exo a C none) ∧ ∀ d, H d = none → d ≠ a → Q .non (upd (upd H d (exd d (ns.zip ws).reverse)) a (exo a C (some d)))
structure OkI (P : Program) (wd : World) (K : PySem.W.Frag) (mg : Str → Option Value) (base : Heap) (x : Str) (k : Nat) (ns : List Str) : Prop where
  ex : ∃ C fI fd ps, mg x = some (.ref C) ∧ OexC K C ∧ PySem.W.findIn K (.ref C) "__init__" = some (some (.ref fI)) ∧ PySem.W.typeIn K (.ref fI) = some (.type "function") ∧ Binds K fd ps [] ∧ FnOk P wd K mg base (L2N.CX P wd) k fI fd ps (spIni C ns)
theorem none_passes {X : Cx} : Passes (L2N.CX X.prog X.w) X E0 := fun _ _ _ _ _ _ _ z => by
  obtain ⟨_, _, _, _, _, _, _, _, _, _, _, _, z⟩ := z
  exact z.elim
theorem pmk_ini [Tbl] {X : Cx} {x : Str} {C fI : Addr} {k : Nat} {fd : FuncData} {ps : List Str} {sp : Sp} {e : Expr} {es : List Expr} {ta : TA} {p pos : Pos} (T : OexC X.K C) (iC : PySem.W.findIn X.K (.ref C) "__init__" = some (some (.ref fI)))
    (tI : PySem.W.typeIn X.K (.ref fI) = some (.type "function")) (F1 : FnOk X.prog X.w X.K X.mg X.base (L2N.CX X.prog X.w) k fI fd ps sp) (hr : Room (k + 1) X.A) (hb : Binds X.K fd ps []) (hg : Gl X x) (hm : X.mg x = some (.ref C)) (ha : PA X (e :: es) ta)
    (hd : (x == ("__debug__" : Str)) = false := by decide) (he : starEach (e :: es) X.env = (false, eval e X.env) :: starEach es X.env := by rfl) (hpl : (backTo pos (starEach es X.env)).any (·.1) = false := by rfl) :
    L2N.PMk X (.Call (.Name x p) (e :: es) [] pos) (tMkO C sp [] ta) := fun pins s σ H Q I h => by
  obtain ⟨n1, n2, n3, n4, bm, n6, n7, n8, n9, n10, n11, n12, n13, n14, n15, hC, hbm⟩ := T.cls
  refine wpAny_Call_Name_kw (ld_glob I hg hm ?_ hd)
  refine PySem.W.callWith_K (h₀ := X.base) I.ok.mod.kin T.kC (thn (ha.run pos pins s σ H _ I h) fun us s1 z => ?_) he hpl
  obtain ⟨vs, H1, I1, r1, hz, q1⟩ := z
  refine ⟨I1.kIn, ?_⟩
  show wpAny _ _ (call (.ref C) us) _ _ _
  obtain ⟨hp, g, dr, tk, os⟩ := s1
  generalize ep : (hp.push (PySem.W.kdv_tup us)).push (PySem.HandSPX.excO C hp.objs.size) = hp2
  have kk : ∀ b o, hp.get? b = some o → hp2.get? b = some o := fun b o z => by
    rw [← ep]
    exact Heap.get?_push_of_some _ (Heap.get?_push_of_some _ z)
  have hget : hp2.get? (hp.objs.size + 1) = some (PySem.HandSPX.excO C hp.objs.size) := by
    rw [← ep]
    heap_get
  have hq := q1 (hp.objs.size + 1) (I1.hok.fresh (Nat.le_succ _))
  have I2 : Inv X pins σ (upd H1 (hp.objs.size + 1) (exo (hp.objs.size + 1) C none)) ⟨hp2, g, dr, tk, os⟩ :=
    I1.laid (t' := tk) (o := exo (hp.objs.size + 1) C none) (h' := hp2) kk (Nat.le_succ _) (exo_ok hget)
  have r2 : Vals (V.ref (hp.objs.size + 1) :: (vs ++ [])) (Value.ref (hp.objs.size + 1) :: (us ++ [])) := .cons rfl (by rw [List.append_nil, List.append_nil]; exact r1)
  have hl : (Value.ref (hp.objs.size + 1) :: us ++ []).length = ps.length := by
    rw [← F1.len _ _ _ _ hq]
    exact r2.length.symm
  have hus : us.length ≤ sizeLine := by
    rw [← Paired.length r1, sizeLine_eq]
    omega
  refine wpAny_call (PySem.HandSPX.call_own F.excBase_ValueError (fun Y => PySem.HandSPX.refsVE_contains Y bm hbm) (I1.kIn _ _ hC) (PySem.W.looks_findIn I1.kIn iC) (fun self => PySem.W.bind_fn I1.kIn self tI) hus ?_)
  rw [ep]
  refine codeAny_mono (F1.run _ X.stack _ _ ⟨Value.ref (hp.objs.size + 1) :: us, []⟩ _ _ _ E0 (hr.make C us []) (I2.env0.make C us []) (hb _ (Value.ref (hp.objs.size + 1) :: us) I2.kIn hl) r2 hq) fun r s' hq' => ?_
  cases r with
  | error er => exact none_passes pins σ _ _ er s' I2 hq'
  | ok fl =>
    cases fl with
    | next => exact hq'.elim
    | brk => exact hq'.elim
    | cont => exact hq'.elim
    | ret u =>
      obtain ⟨v, H2, o2, b2, un2, k2, rv, ev, d, fs, ea, ed, hd1, q2⟩ := hq'
      subst ev
      obtain ⟨h2, g2, d2, t2, os'⟩ := s'
      obtain ⟨t0, G, J, kG, ge, hoe, na⟩ := mk_end0 (d2 := d2) (t2 := t2) I1 (Nat.le_succ _) kk un2 k2 o2 b2 ea ed hd1
      exact ⟨rv, hp.objs.size + 1, _, _, ⟨G, g2, d2, t2, os'⟩, _, .ref C, some d, rfl, J, kG, ge, hoe, ⟨rfl, rfl, fun z hz => by cases hz; rfl⟩, rfl, rfl, na, rfl, b2, raises_own T.exC T.tyC, q2⟩
def mRaiseF (c : Str) (ns : List Str) (a : MA) : MS := fun env h => RsS (a env h) env fun xs h1 => if xs.length = ns.length ∧ ns.length ≤ 1000 then .er c (some (ns.zip xs).reverse) env h1 else .stuck
theorem zip_fst {α β : Type} {ns : List α} {xs : List β} (h : xs.length = ns.length) : (ns.zip xs).map Prod.fst = ns := by rw [List.map_fst_zip]; omega
theorem zip_snd' {α β : Type} {ns : List α} {xs : List β} (h : xs.length = ns.length) : (ns.zip xs).map Prod.snd = xs := by rw [List.map_snd_zip]; omega
theorem VRs.reverse {K : PySem.W.Frag} {w : Wd} : ∀ {v : List V} {d : List D}, VRs K w v d → VRs K w v.reverse d.reverse
  | _, _, .nil => .nil
  | _, _, .cons a b => by
    rw [List.reverse_cons, List.reverse_cons]
    exact (VRs.reverse b).append (.cons a .nil)
theorem s_raiseF [Tbl] {X : Cx} {W : WX} {x : Str} {k j : Nat} {ns : List Str} {e : Expr} {es : List Expr} {ma : MA} {p pos pos' : Pos} (F : OkI X.prog X.w X.K X.mg X.base x k ns) (hr : Room j X.A) (hk : k + 1 ≤ j) (hc : X.calm = true) (tk : L2N.Takes X W) (hg : Gl X x) (ha : PA X (e :: es) (tA X.K X.mg W ma))
    (hd : (x == ("__debug__" : Str)) = false := by decide) (he : starEach (e :: es) X.env = (false, eval e X.env) :: starEach es X.env := by rfl) (hpl : (backTo pos (starEach es X.env)).any (·.1) = false := by rfl) :
    PS X (.Raise (some (.Call (.Name x p) (e :: es) [] pos)) none pos') (tS X.K X.mg W (mRaiseF x ns ma)) := by
  obtain ⟨C, fI, fd, ps, hm, T, iC, tI, hb, F1⟩ := F.ex
  refine PS.imp (L2N.ps_raise hc tk (pmk_ini T iC tI F1 (hr.mono hk) hb hg hm ha hd he hpl)) fun D σ H ⟨w, env, h, ok, er, q⟩ => ?_
  refine ⟨w, env, h, ok, er, PostS.bind er q fun v ds w1 H1 h1 s1 ok1 v1 p1 => ?_⟩
  by_cases hl : ds.length = ns.length ∧ ns.length ≤ 1000
  · rw [if_pos hl] at p1
    obtain ⟨hl, hle⟩ := hl
    have hv : v.length = ns.length := by rw [v1.length, hl]
    refine ⟨by omega, fun a ha => ⟨by simp [hv], a, v, by simp, hv, upd_same, fun d hd0 hda => ⟨rfl, d, (ns.zip v).reverse, upd_same, by rw [upd_ne hda, upd_same], by rw [upd_ne hda] at hd0; exact hd0, ?_⟩⟩⟩
    have hd1 : H1 d = none := by rw [upd_ne hda] at hd0; exact hd0
    have e : upd (del (upd (upd (upd H1 a (exo a C none)) d (exd d (ns.zip v).reverse)) a (exo a C (some d))) a) d (.xd (ns.zip v).reverse) = upd H1 d (.xd (ns.zip v).reverse) := by
      funext b
      by_cases hb : b = d
      · rw [hb, upd_same, upd_same]
      · rw [upd_ne hb, upd_ne hb]
        by_cases ha2 : b = a
        · rw [ha2, del_same, ha]
        · rw [del_ne ha2, upd_ne ha2, upd_ne hb, upd_ne ha2]
    rw [e]
    obtain ⟨f0, r0⟩ := ok1.fresh hd1
    refine p1 (.ref C) (some d) σ w1 _ hm ⟨fun _ _ z => z, ⟨[], by simp⟩, fun b o _ _ z => ?_, fun b z => ?_, fun _ m => .inl m, fun _ _ z => .inl z⟩ (ok1.put (fun o e => by rw [hd1] at e; cases e) f0 r0) (er.mono s1) ⟨_, upd_same, r0, ?_, ?_⟩
    · rw [upd_ne (ne_of_none z hd1)]
      exact z
    · by_cases hb : b = d
      · rw [hb, upd_same]
        exact fun z => nomatch z
      · rw [upd_ne hb]
        exact z
    · rw [List.map_reverse, List.map_reverse, zip_fst hv, zip_fst hl]
    · rw [List.map_reverse, List.map_reverse, zip_snd' hv, zip_snd' hl]
      exact v1.reverse
  · rw [if_neg hl] at p1
    exact p1.elim
/-! ### what a suite knows of the exception -/
section
variable {K : PySem.W.Frag} {w w' : Wd} {H H' : Hp} {h : Hap} {σ : L2.St} {d : Option Addr} {fs : Option (List (Str × D))}
theorem XR.mono (s : Step w H w' H') (x : XR K w H d fs) : XR K w' H' d fs := by
  unfold XR at x ⊢
  split at x
  · trivial
  · obtain ⟨f1, e1, e2, e3, e4⟩ := x
    refine ⟨f1, s.keep _ _ e2 (fun _ z => nomatch z) e1, fun m => ?_, e3, e4.mono s⟩
    rcases s.new _ m with z | z
    · exact e2 z
    · rw [e1] at z
      cases z
  · exact x.elim
theorem lookup_rel : ∀ {l : List (Str × V)} {l' : List (Str × D)} {f : Str} {y : D}, l.map Prod.fst = l'.map Prod.fst → VRs K w (l.map Prod.snd) (l'.map Prod.snd) → l'.lookup f = some y → ∃ v, l.lookup f = some v ∧ VR K w v y
  | [], [], _, _, _, _, e => by cases e
  | (a, v) :: l, (b, z) :: l', f, y, e1, .cons r1 r2, e => by
    have e2 : a = b := by simpa using (List.cons.inj e1).1
    subst e2
    unfold List.lookup at e ⊢
    split at e
    · next q => cases e; exact ⟨v, rfl, r1⟩
    · next q => exact lookup_rel (List.cons.inj e1).2 r2 e
end
def SE [Tbl] (K : PySem.W.Frag) (gm : Str → Option Value) (a : Addr) (d : Option Addr) (i : Nat) (fs : Option (List (Str × D))) (t : TE) (m : ME) : Prop := ∀ (w : Wd) (σ : L2.St) (H : Hp) (env : Env) (h : Hap) (Q : VK), Ok K w H h → EnvR K w σ env → σ[i]? = some (some (.ref a)) → XR K w H d fs →
  Post K gm (VR K) w H (m env h) Q (fun _ _ _ => False) → t σ H Q
def ST [Tbl] (K : PySem.W.Frag) (gm : Str → Option Value) (a : Addr) (d : Option Addr) (i : Nat) (fs : Option (List (Str × D))) (t : TT) (m : MT) : Prop := ∀ (w : Wd) (σ : L2.St) (H : Hp) (env : Env) (h : Hap) (Q : Bool → Hp → Prop), Ok K w H h → EnvR K w σ env → σ[i]? = some (some (.ref a)) → XR K w H d fs →
  Post K gm VRb w H (m env h) Q (fun _ _ _ => False) → t σ H Q
def SA [Tbl] (K : PySem.W.Frag) (gm : Str → Option Value) (a : Addr) (d : Option Addr) (i : Nat) (fs : Option (List (Str × D))) (t : TA) (m : MA) : Prop := ∀ (w : Wd) (σ : L2.St) (H : Hp) (env : Env) (h : Hap) (Q : List V → Hp → Prop), Ok K w H h → EnvR K w σ env → σ[i]? = some (some (.ref a)) → XR K w H d fs →
  Post K gm (VRs K) w H (m env h) Q (fun _ _ _ => False) → t σ H Q
def PostI [Tbl] (K : PySem.W.Frag) (w : Wd) (H : Hp) (i : Nat) (a : Addr) (r : RS) (D : Ends) : Prop := match r with
  | .nx e h => ∀ σ w' H', Step w H w' H' → Ok K w' H' h → EnvR K w' σ e → σ[i]? = some (some (.ref a)) → D.nx σ H'
  | .bk e h => ∀ σ w' H', Step w H w' H' → Ok K w' H' h → EnvR K w' σ e → σ[i]? = some (some (.ref a)) → D.bk σ H'
  | .ct e h => ∀ σ w' H', Step w H w' H' → Ok K w' H' h → EnvR K w' σ e → σ[i]? = some (some (.ref a)) → D.ct σ H'
  | .rt d h => ∀ v w' H', Step w H w' H' → Ok K w' H' h → VR K w' v d → D.rt v H'
  | _ => False
theorem PostI.step [Tbl] {K : PySem.W.Frag} {w w' : Wd} {H H' : Hp} {i : Nat} {a : Addr} {r : RS} {D : Ends} (s : Step w H w' H') (p : PostI K w H i a r D) : PostI K w' H' i a r D := by
  cases r with
  | nx e h => exact fun v w2 H2 s2 ok vr => p v w2 H2 (s.trans s2) ok vr
  | bk e h => exact fun v w2 H2 s2 ok vr => p v w2 H2 (s.trans s2) ok vr
  | ct e h => exact fun v w2 H2 s2 ok vr => p v w2 H2 (s.trans s2) ok vr
  | rt e h => exact fun v w2 H2 s2 ok vr => p v w2 H2 (s.trans s2) ok vr
  | er c fs e h => exact p
  | stuck => exact p
theorem PostI.bind [Tbl] {α β : Type} {K : PySem.W.Frag} {w : Wd} {H : Hp} {i : Nat} {a : Addr} {VA : Wd → β → α → Prop} {r : Rs α} {env : Env} {f : α → Hap → RS} {D : Ends} {Q1 : β → Hp → Prop} (p : PostI K w H i a (RsS r env f) D)
    (k : ∀ v x w' H' h', Step w H w' H' → Ok K w' H' h' → VA w' v x → PostI K w' H' i a (f x h') D → Q1 v H') : Post K gm VA w H r Q1 (fun _ _ _ => False) := by
  cases r with
  | ok x h => exact fun v w' H' s ok vr => k v x w' H' h s ok vr (PostI.step s p)
  | err c fs h => exact p.elim
  | stuck => exact p
def SS [Tbl] (K : PySem.W.Frag) (a : Addr) (d : Option Addr) (i : Nat) (fs : Option (List (Str × D))) (t : TS) (m : MS) : Prop := ∀ (w : Wd) (σ : L2.St) (H : Hp) (env : Env) (h : Hap) (D : Ends), Ok K w H h → EnvR K w σ env → σ[i]? = some (some (.ref a)) → XR K w H d fs →
  PostI K w H i a (m env h) D → t D σ H
section
variable {X : Cx} {a : Addr} {oe : Obj} {pn : List (Addr × Obj)} {d : Option Addr} {i : Nat} {fs : Option (List (Str × D))}
def SPE [Tbl] (X : Cx) (a : Addr) (oe : Obj) (pn : List (Addr × Obj)) (d : Option Addr) (i : Nat) (fs : Option (List (Str × D))) (e : Expr) (m : ME) : Prop := ∃ t, PE (X.suite a ((a, oe) :: pn)) e t ∧ SE X.K X.mg a d i fs t m
def SPT [Tbl] (X : Cx) (a : Addr) (oe : Obj) (pn : List (Addr × Obj)) (d : Option Addr) (i : Nat) (fs : Option (List (Str × D))) (e : Expr) (m : MT) : Prop := ∃ t, PT (X.suite a ((a, oe) :: pn)) e t ∧ ST X.K X.mg a d i fs t m
def SPW [Tbl] (X : Cx) (a : Addr) (oe : Obj) (pn : List (Addr × Obj)) (d : Option Addr) (i : Nat) (fs : Option (List (Str × D))) (e : Expr) (m : MT) : Prop := ∃ t, PW (X.suite a ((a, oe) :: pn)) e t ∧ ST X.K X.mg a d i fs t m
def SPA [Tbl] (X : Cx) (a : Addr) (oe : Obj) (pn : List (Addr × Obj)) (d : Option Addr) (i : Nat) (fs : Option (List (Str × D))) (e : List Expr) (m : MA) : Prop := ∃ t, PA (X.suite a ((a, oe) :: pn)) e t ∧ SA X.K X.mg a d i fs t m
def SPS [Tbl] (X : Cx) (a : Addr) (oe : Obj) (pn : List (Addr × Obj)) (d : Option Addr) (i : Nat) (fs : Option (List (Str × D))) (e : Stmt) (m : MS) : Prop := ∃ t, PS (X.suite a ((a, oe) :: pn)) e t ∧ SS X.K a d i fs t m
def SPSs [Tbl] (X : Cx) (a : Addr) (oe : Obj) (pn : List (Addr × Obj)) (d : Option Addr) (i : Nat) (fs : Option (List (Str × D))) (e : List Stmt) (m : MS) : Prop := ∃ t, PSs (X.suite a ((a, oe) :: pn)) e t ∧ SS X.K a d i fs t m
theorem sp_of [Tbl] {e : Expr} {m : ME} (h : PE (X.suite a ((a, oe) :: pn)) e (tE X.K X.mg W0 m)) : SPE X a oe pn d i fs e m := ⟨_, h, fun w σ H env h Q ok er _ _ p => ⟨w, env, h, ok, er, p⟩⟩
theorem st_of [Tbl] {e : Expr} {m : MT} (h : PT (X.suite a ((a, oe) :: pn)) e (tT X.K X.mg W0 m)) : SPT X a oe pn d i fs e m := ⟨_, h, fun w σ H env h Q ok er _ _ p => ⟨w, env, h, ok, er, p⟩⟩
theorem sa_of [Tbl] {e : List Expr} {m : MA} (h : PA (X.suite a ((a, oe) :: pn)) e (tA X.K X.mg W0 m)) : SPA X a oe pn d i fs e m := ⟨_, h, fun w σ H env h Q ok er _ _ p => ⟨w, env, h, ok, er, p⟩⟩
/-- e.f -/
def mXf (fs : Option (List (Str × D))) (f : Str) : ME := fun _ h => ofO (fs.bind fun l => l.lookup f) h
theorem sp_xf [Tbl] {C : Addr} {f nm : Str} {p pos : Pos} (T : XfC X.K C) (hno : PySem.W.findIn X.K (.ref C) f = some none) (hz : Zc (.ref C) d oe) (hf : ∃ vs, oe.data = .fields vs) (hN : X.N[i]? = some nm) (hv : Vis X.env.scope nm) (hd : (nm == ("__debug__" : Str)) = false := by decide) (hcd : (nm == ("__classdict__" : Str)) = false := by decide)
    (hb : attributeBase (.Name nm p) f X.env (eval (.Name nm p) X.env) = eval (.Name nm p) X.env := by rfl) : SPE X a oe pn d i fs (.Attribute (.Name nm p) f pos) (mXf fs f) := by
  refine ⟨_, pe_xf T hno hz hf (pe_var (X := X.suite a ((a, oe) :: pn)) hN hv hd hcd) hb, fun w σ H env h Q ok er sl xr q => ?_⟩
  obtain ⟨y, e, q0⟩ := ofO_post q
  obtain ⟨l, e1, e2⟩ := Option.bind_eq_some_iff.mp e
  subst e1
  cases d with
  | none => exact xr.elim
  | some dd =>
    obtain ⟨f1, e3, _, e4, e5⟩ := xr
    obtain ⟨v, e6, e7⟩ := lookup_rel e4 e5 e2
    exact ⟨.ref a, sl, rfl, rfl, dd, f1, v, rfl, e3, e6, q0 v w H (Step.refl _ _) ok e7⟩
/-- isinstance(e, C) -/
structure ExQ (K : PySem.W.Frag) (C : Addr) : Prop where
  c : (PySem.W.clsIn K C).isSome = true
  g : PySem.W.findIn K (.ref C) "__getattribute__" = some (some (.builtin "BaseException.__getattribute__"))
  n : PySem.W.findIn K (.ref C) "__getattr__" = some none
  s : PySem.W.subIn K (.ref C) (.type "BaseException") = some true
  a : PySem.W.findIn K (.ref C) "__class__" = some (some (.builtin "object.__class__"))
  d : PySem.W.specialIn K (.builtin "object.__class__") "__get__" = some (some (.builtin "getset_descriptor.__get__"))
  t : PySem.W.takesIn K (.builtin "object.__class__") = some true
  m : PySem.W.mroIn K C (.type "object") = some true
theorem cr_ise {C : Addr} (q : ExQ X.K C) (hz : Zc (.ref C) d oe) (hf : ∃ vs, oe.data = .fields vs) : CallR (X.suite a ((a, oe) :: pn)) (.builtin "isinstance") (fun xs H Q => (∀ dd, d = some dd → ∃ fs, H dd = some (.xd fs)) ∧ rIsE X.K C a xs H Q) := by
  intro pins s σ H xs us Q I r h
  obtain ⟨hx, c, cv, b, rfl, hcv, e, k⟩ := h
  obtain ⟨u1, u2, rfl, r1, r2⟩ := vals2 r
  cases r1
  obtain rfl := hcv _ r2
  obtain ⟨hget, _⟩ := I.pin (a, oe) (List.mem_append_left _ List.mem_cons_self)
  obtain ⟨vs, hv⟩ := hf
  have J : ∃ od, PySem.W.InstAt s.heap a oe C od := by
    cases hd : d with
    | none =>
      refine ⟨none, hget, hz.1, by unfold PySem.W.notCls; rw [hv] <;> rfl, ?_⟩
      rw [hz.2, hd]
      trivial
    | some dd =>
      obtain ⟨f1, e1⟩ := hx dd hd
      have x : ObjOk X.prog X.w H s.heap dd (.xd f1) := I.hok dd _ e1
      obtain ⟨mA, hns, _⟩ := x
      obtain ⟨od, ho, _⟩ := lookIn_ns hns
      refine ⟨some od, hget, hz.1, by unfold PySem.W.notCls; rw [hv] <;> rfl, ?_⟩
      rw [hz.2, hd]
      exact ho
  obtain ⟨od, J⟩ := J
  exact PySem.W.kia_one (PySem.W.kitx_exc q.c q.g q.n q.s q.a q.d q.t q.m) I.kIn J e (fun z => nomatch z) fun tk => ⟨.bl b, H, I.kept (t' := tk) fun _ _ z => z, rfl, k⟩
theorem sp_is [Tbl] {C : Addr} {nm : Str} {b : Bool} {p p1 pos : Pos} {e2 : Expr} {cv : Value} {c : V} (q : ExQ X.K C) (hz : Zc (.ref C) d oe) (hf : ∃ vs, oe.data = .fields vs) (hN : X.N[i]? = some nm) (hv : Vis X.env.scope nm) (h2 : PE (X.suite a ((a, oe) :: pn)) e2 (tC c)) (hcv : ∀ u, RelV c u → u = cv)
    (hk : PySem.W.kitOne X.K (.ref C) cv = some b) (hg : Gl X "isinstance") (hm : X.mg "isinstance" = none) (hd : (nm == ("__debug__" : Str)) = false := by decide) (hcd : (nm == ("__classdict__" : Str)) = false := by decide)
    (hs : starEach [.Name nm p1, e2] (X.suite a ((a, oe) :: pn)).env = (false, eval (.Name nm p1) (X.suite a ((a, oe) :: pn)).env) :: starEach [e2] (X.suite a ((a, oe) :: pn)).env := by rfl) (hs2 : starEach [e2] (X.suite a ((a, oe) :: pn)).env = (false, eval e2 (X.suite a ((a, oe) :: pn)).env) :: starEach [] (X.suite a ((a, oe) :: pn)).env := by rfl)
    (hpl : (backTo pos (starEach [e2] (X.suite a ((a, oe) :: pn)).env)).any (·.1) = false := by rfl) : SPE X a oe pn d i fs (.Call (.Name "isinstance" p) [.Name nm p1, e2] [] pos) (mC (.bl b)) := by
  refine ⟨_, pe_callB (cr_ise q hz hf) hg hm bl_isinstance (pa_cons (pe_var (X := X.suite a ((a, oe) :: pn)) hN hv hd hcd) (pa_cons h2 pa_nil hs2) hs) (by decide) (by decide) hs hpl, fun w σ H env h Q ok er sl xr q' => ?_⟩
  refine ⟨.ref a, sl, fun dd hdd => ?_, c, cv, b, rfl, hcv, hk, q' (.bl b) w H (Step.refl _ _) ok (.bl b)⟩
  subst hdd
  cases fs with
  | none => exact xr.elim
  | some l =>
    obtain ⟨f1, e3, _⟩ := xr
    exact ⟨f1, e3⟩
theorem sp_one [Tbl] {op : BoolOp} {e : Expr} {m : ME} {pos : Pos} (h : SPE X a oe pn d i fs e m) : SPE X a oe pn d i fs (.BoolOp op [e] pos) m := let ⟨t, h, s⟩ := h; ⟨t, pe_one h, s⟩
theorem sp_and [Tbl] {e e' : Expr} {rest : List Expr} {m m' : ME} {pos : Pos} (h : SPE X a oe pn d i fs e m) (h' : SPE X a oe pn d i fs (.BoolOp .And (e' :: rest) pos) m') : SPE X a oe pn d i fs (.BoolOp .And (e :: e' :: rest) pos) (mAnd m m') := by
  obtain ⟨t, h, s⟩ := h
  obtain ⟨t', h', s'⟩ := h'
  refine ⟨_, pe_and h h', fun w σ H env hh Q ok er sl xr p => s w σ H env hh _ ok er sl xr (Post.bind p fun x da w1 H1 h1 s1 ok1 v1 p1 => ?_)⟩
  cases v1 <;> try exact p1.elim
  next b =>
  refine ⟨b, rfl, ?_⟩
  cases b with
  | true => exact s' w1 σ H1 env h1 Q ok1 (er.mono s1) sl (xr.mono s1) p1
  | false => exact p1.ok ok1 (.bl false)
theorem sa_cons [Tbl] {e : Expr} {es : List Expr} {m : ME} {r : MA} (h : SPE X a oe pn d i fs e m) (h' : SPA X a oe pn d i fs es r) (hs : starEach (e :: es) (X.suite a ((a, oe) :: pn)).env = (false, eval e (X.suite a ((a, oe) :: pn)).env) :: starEach es (X.suite a ((a, oe) :: pn)).env := by rfl) : SPA X a oe pn d i fs (e :: es) (mCons m r) := by
  obtain ⟨t, h, s⟩ := h
  obtain ⟨t', h', s'⟩ := h'
  exact ⟨_, pa_cons h h' hs, fun w σ H env hh Q ok er sl xr p => s w σ H env hh _ ok er sl xr (Post.bind p fun x da w1 H1 h1 s1 ok1 v1 p1 => s' w1 σ H1 env h1 _ ok1 (er.mono s1) sl (xr.mono s1) (Post.bind p1 fun xs ds w2 H2 h2 s2 ok2 v2 p2 => p2.ok ok2 (.cons (v1.mono s2) v2)))⟩
theorem sp_tup [Tbl] {es : List Expr} {m : MA} {k : Nat} {pos : Pos} (h : SPA X a oe pn d i fs es m) : SPE X a oe pn d i fs (.Tuple es k pos) (mTup m) := by
  obtain ⟨t, h, s⟩ := h
  refine ⟨_, pe_tup h, fun w σ H env hh Q ok er sl xr p => s w σ H env hh _ ok er sl xr (Post.bind p fun x da w1 H1 h1 s1 ok1 v1 p1 => ?_)⟩
  by_cases hl : da.length ≤ sizeLine
  · rw [if_pos hl] at p1
    exact ⟨by rw [v1.length]; exact hl, fun a ha => p1.alloc ok1 ha (vr_tup ok1 ha v1)⟩
  · rw [if_neg hl] at p1
    exact p1.elim
theorem st_val [Tbl] {e : Expr} {m : ME} (h : SPE X a oe pn d i fs e m) (he : ∀ whole, isTrue e (X.suite a ((a, oe) :: pn)).env whole = (do let v ← whole; standAt e.pos; holding [v] (truthy v)) := by intro _; rfl) : SPT X a oe pn d i fs e (mTst m) := by
  obtain ⟨t, h, s⟩ := h
  refine ⟨_, pt_val h he, fun w σ H env hh Q ok er sl xr p => s w σ H env hh _ ok er sl xr (Post.bind p fun x da w1 H1 h1 s1 ok1 v1 p1 => ?_)⟩
  obtain ⟨b, e, q⟩ := ofO_post p1
  have e2 := oB_some e
  subst e2
  cases v1
  exact ⟨b, rfl, q b w1 H1 (Step.refl _ _) ok1 rfl⟩
theorem st_not [Tbl] {e : Expr} {m : MT} {pos : Pos} (h : SPT X a oe pn d i fs e m) : SPT X a oe pn d i fs (.UnaryOp .Not e pos) (mNotT m) := by
  obtain ⟨t, h, s⟩ := h
  refine ⟨_, pt_not h, fun w σ H env hh Q ok er sl xr p => s w σ H env hh _ ok er sl xr (Post.bind p fun x da w1 H1 h1 s1 ok1 v1 p1 => ?_)⟩
  cases v1
  exact p1 _ w1 H1 (Step.refl _ _) ok1 rfl
theorem sw_or1 [Tbl] {e : Expr} {m : MT} {pos : Pos} (h : SPT X a oe pn d i fs e m) : SPW X a oe pn d i fs (.BoolOp .Or [e] pos) m := let ⟨t, h, s⟩ := h; ⟨t, pw_or1 h, s⟩
theorem sw_or [Tbl] {e e' : Expr} {rest : List Expr} {m m' : MT} {pos : Pos} (h : SPT X a oe pn d i fs e m) (h' : SPW X a oe pn d i fs (.BoolOp .Or (e' :: rest) pos) m') : SPW X a oe pn d i fs (.BoolOp .Or (e :: e' :: rest) pos) (mOrT m m') := by
  obtain ⟨t, h, s⟩ := h
  obtain ⟨t', h', s'⟩ := h'
  refine ⟨_, pw_or h h', fun w σ H env hh Q ok er sl xr p => s w σ H env hh _ ok er sl xr (Post.bind p fun x da w1 H1 h1 s1 ok1 v1 p1 => ?_)⟩
  cases v1
  cases x with
  | false => exact s' w1 σ H1 env h1 Q ok1 (er.mono s1) sl (xr.mono s1) p1
  | true => exact p1 _ w1 H1 (Step.refl _ _) ok1 rfl
theorem st_w [Tbl] {e : Expr} {m : MT} (h : SPW X a oe pn d i fs e m) : SPT X a oe pn d i fs e m := let ⟨t, h, s⟩ := h; ⟨t, PW.pt h, s⟩
/-! statements of a suite -/
theorem ss_ret [Tbl] {e : Expr} {m : ME} {pos : Pos} (h : SPE X a oe pn d i fs e m) : SPS X a oe pn d i fs (.Return (some e) pos) (mRet m) := by
  obtain ⟨t, h, s⟩ := h
  exact ⟨_, ps_ret h, fun w σ H env hh D ok er sl xr p => s w σ H env hh _ ok er sl xr (PostI.bind p fun v x w' H' h' s1 ok1 vr p' => p' v w' H' (Step.refl _ _) ok1 vr)⟩
theorem ss_if [Tbl] {c : Expr} {b1 b2 : List Stmt} {mc : MT} {m1 m2 : MS} {pos : Pos} (h : SPT X a oe pn d i fs c mc) (h1 : SPSs X a oe pn d i fs b1 m1) (h2 : SPSs X a oe pn d i fs b2 m2) : SPS X a oe pn d i fs (.If c b1 b2 pos) (mIfS mc m1 m2) := by
  obtain ⟨t, h, s⟩ := h
  obtain ⟨t1, h1, s1⟩ := h1
  obtain ⟨t2, h2, s2⟩ := h2
  refine ⟨_, ps_if h h1 h2, fun w σ H env hh D ok er sl xr p => s w σ H env hh _ ok er sl xr (PostI.bind p fun v x w' H' h' st ok1 vr p' => ?_)⟩
  cases vr
  cases v with
  | true => exact s1 w' σ H' env h' D ok1 (er.mono st) sl (xr.mono st) p'
  | false => exact s2 w' σ H' env h' D ok1 (er.mono st) sl (xr.mono st) p'
theorem ss_nil' [Tbl] : SPSs X a oe pn d i fs [] mNext := ⟨_, pss_nil, fun w σ H env hh D ok er sl xr p => p σ w H (Step.refl _ _) ok er sl⟩
theorem ss_one' [Tbl] {st : Stmt} {m : MS} (h : SPS X a oe pn d i fs st m) : SPSs X a oe pn d i fs [st] m := let ⟨t, h, s⟩ := h; ⟨t, pss_one h, s⟩
theorem ss_cons' [Tbl] {st : Stmt} {rest : List Stmt} {m m' : MS} (h : SPS X a oe pn d i fs st m) (h' : SPSs X a oe pn d i fs rest m') (hd : d = none ∨ True) : SPSs X a oe pn d i fs (st :: rest) (mSeq m m') := by
  obtain ⟨t, h, s⟩ := h
  obtain ⟨t', h', s'⟩ := h'
  refine ⟨_, pss_cons h h', fun w σ H env hh D ok er sl xr p => s w σ H env hh _ ok er sl xr ?_⟩
  unfold mSeq at p
  revert p
  cases m env hh with
  | nx e1 h1 => exact fun p σ' w' H' st ok' er' sl' => s' w' σ' H' e1 h1 D ok' er' sl' (xr.mono st) (PostI.step st p)
  | bk e1 h1 => exact fun p => p
  | ct e1 h1 => exact fun p => p
  | rt e1 h1 => exact fun p => p
  | er c fs e1 h1 => exact fun p => p
  | stuck => exact fun p => p
end
/-! ### try: .. except C as e: .. -/
def RS.forget (i : Nat) (r : RS) : RS := match r with
  | .nx e h => .nx (e.set i none) h
  | .bk e h => .bk (e.set i none) h
  | .ct e h => .ct (e.set i none) h
  | .rt d h => .rt d h
  | _ => .stuck
def mTryAs (cs os : List Str) (i : Nat) (b : MS) (su : Str → Option (List (Str × D)) → MS) : MS := fun env h => match b env h with
  | .er c fs e h1 => if c ∈ cs then (su c fs (e.set i none) h1).forget i else if c ∈ os then .er c fs e h1 else .stuck
  | r => r
theorem EnvR.unset {K : PySem.W.Frag} {w : Wd} {σ : L2.St} {env : Env} (er : EnvR K w σ env) (i : Nat) (z : Option V) : EnvR K w (σ.set i z) (env.set i none) := ⟨by rw [List.length_set, List.length_set]; exact er.len, fun j d' e => by
  by_cases q : i = j
  · subst q
    by_cases hl : i < env.length
    · rw [List.getElem?_set_self hl] at e
      cases e
    · rw [List.getElem?_eq_none (by rw [List.length_set]; omega)] at e
      cases e
  · rw [List.getElem?_set_ne q] at e ⊢
    exact er.get j d' e⟩
/-- which classes a clause catches, and which not -/
structure Cat (K : PySem.W.Frag) (mg : Str → Option Value) (x : Str) (cs os : List Str) : Prop where
  ex : ∃ C : Addr, mg x = some (.ref C) ∧ (∀ c ∈ cs, ∀ cv, mg c = some cv → PySem.W.exmOne K cv (.ref C) = some true) ∧ (∀ c ∈ os, ∀ cv, mg c = some cv → PySem.W.exmOne K cv (.ref C) = some false)
theorem s_tryAs [Tbl] {X : Cx} {W : WX} {x n : Str} {i : Nat} {body suite : List Stmt} {b₀ : Stmt} {np pos pos' : Pos} {mb : MS} {cs os : List Str} {su : Str → Option (List (Str × D)) → MS} (hs : X.stack = X.env :: X.outer) (hf : X.env.frame = some X.env.locals) (hN : X.N.Nodup) (hi : X.N[i]? = some n)
    (hln : X.env.kindOf n = some .local) (hg : Gl X x) (tk : L2N.Takes X W) (hcat : Cat X.K X.mg x cs os)
    (hb : ∀ (W : WX) (pn : List (Addr × Obj)) (xe : Value → Shared → Prop), L2N.Takes (X.tr pn xe) W → PassesOwn (model X.prog X.w) X.A X.env xe → PSs (X.tr pn xe) body (tS X.K X.mg W mb))
    (hsu : ∀ c ∈ cs, ∀ (cv : Value) (fs : Option (List (Str × D))) (a : Addr) (oe : Obj) (d : Option Addr) (pn : List (Addr × Obj)), X.mg c = some cv → L2N.Zn cv d oe → (∃ vs, oe.data = .fields vs) → SPSs X a oe pn d i fs (b₀ :: suite) (su c fs))
    (hd : (x == ("__debug__" : Str)) = false := by decide) :
    PS X (.Try body [.ExceptHandler (some (.Name x np)) (some n) (b₀ :: suite) pos'] [] [] pos) (tS X.K X.mg W (mTryAs cs os i mb su)) := by
  obtain ⟨C, hC, h1, h2⟩ := hcat.ex
  have hil : i < X.N.length := (List.getElem?_eq_some_iff.mp hi).1
  refine PS.imp (L2N.ps_try_as (tb := fun W => tS X.K X.mg W mb) (ts := fun a cls d D σ H => σ.length = X.N.length → ∃ w env h c fs, c ∈ cs ∧ X.mg c = some cls ∧ Ok X.K w H h ∧ EnvR X.K w σ env ∧ σ[i]? = some (some (.ref a)) ∧ XR X.K w H d fs ∧ PostI X.K w H i a (su c fs env h) D) hs hf hN hi hln ⟨hg, hd, .inl hC⟩ tk hb
    fun a oe cls d pn hz hfl => ⟨fun pins s σ H D I h => ?_⟩) fun D σ H ⟨w, env, h, ok, er, p⟩ => ⟨w, env, h, ok, er, ?_⟩
  · obtain ⟨w, env, hh, c, fs, hc, hm, ok, er, sl, xr, p⟩ := h I.len
    obtain ⟨t, ht, st⟩ := hsu c hc cls fs a oe d pn hm hz hfl
    exact ht.run pins s σ H D I (st w σ H env hh D ok er sl xr p)
  · unfold mTryAs at p
    revert p
    cases mb env h with
    | nx e1 h1 => exact fun p => p
    | bk e1 h1 => exact fun p => p
    | ct e1 h1 => exact fun p => p
    | rt e1 h1 => exact fun p => p
    | stuck => exact fun p => p
    | er c fs e1 hh1 =>
      intro p cv d σ' w' H' hcv s1 ok1 er1 xr1
      dsimp only at p
      split at p
      · next hc =>
        refine ⟨true, h1 c hc cv hcv, fun _ a ha hlen => ?_, fun z => nomatch z⟩
        have hlen' : i < σ'.length := by
          rw [List.length_set] at hlen
          omega
        refine ⟨w', e1.set i none, hh1, c, fs, hc, hcv, ok1, er1.unset i _, by rw [List.getElem?_set_self hlen'], xr1, ?_⟩
        have p' := PostS.step s1 p
        clear p
        revert p'
        cases su c fs (e1.set i none) hh1 with
        | nx e2 h2 => exact fun p' σ2 w2 H2 s2 ok2 er2 _ => p' _ w2 H2 s2 ok2 (er2.unset i none)
        | bk e2 h2 => exact fun p' σ2 w2 H2 s2 ok2 er2 _ => p' _ w2 H2 s2 ok2 (er2.unset i none)
        | ct e2 h2 => exact fun p' σ2 w2 H2 s2 ok2 er2 _ => p' _ w2 H2 s2 ok2 (er2.unset i none)
        | rt e2 h2 => exact fun p' => p'
        | er c2 fs2 e2 h2 => exact fun p' => p'
        | stuck => exact fun p' => p'
      · split at p
        · next hc ho => exact ⟨false, h2 c ho cv hcv, fun z => Bool.noConfusion z, fun _ => p cv d σ' w' H' hcv s1 ok1 er1 xr1⟩
        · exact p.elim
end
end Vi

set_option Elab.async false
set_option linter.all false
set_option autoImplicit false
set_option maxRecDepth 100000
set_option maxHeartbeats 2000000
namespace Vi
open PySem PySem.Spec PyProof.Rows L2
open scoped Classical
noncomputable section
variable {gm : Str → Option Value}
/-! ### defs that are called within a suite -/
structure OkH [Tbl] (P : Program) (wd : World) (K : PySem.W.Frag) (mg : Str → Option Value) (base : Heap) (x : Str) (k n : Nat) (m : MF) : Prop where
  ex : ∃ f fd ps, mg x = some (.ref f) ∧ PySem.W.keepIn K (.ref f) = true ∧ Binds K fd ps [] ∧ L2H.FnH P wd K mg base (L2N.CX P wd) k f fd ps (spM K mg n m)
section
variable {P : Program} {wd : World} {K : PySem.W.Frag} {mg : Str → Option Value} {base : Heap}
theorem OkH.mk' [Tbl] {x : Str} {st : Stmt} {N ps : List Str} {k n z : Nat} {b : MS} {m : MF} (h : Has K mg x st ps) (S : FnScope N ps (defScope st)) (hn : ps.length = n) (hN : N.length = z) (hm : m = run z b)
    (hbody : ∀ (f : Addr) (cdv : Value) (A : Around) (outer : List PySem.Env) (s : Shared) (H : Hp) (E : XK) (p : Addr × Obj), L2H.HotC (L2H.cxH (L2N.CX P wd) P wd K mg base N x (defScope st) f cdv A outer s H E p) → L2H.RoomH k (A.deeper (envOfC x (defScope st) s.heap.objs.size f cdv)) →
      PSs (L2H.cxH (L2N.CX P wd) P wd K mg base N x (defScope st) f cdv A outer s H E p) (defBody st) (tS K mg (fun cls d _ H => E cls d H) b)) : OkH P wd K mg base x (k + 1) n m := by
  obtain ⟨f, fd, F, hf, hb⟩ := h
  subst hn hN hm
  refine ⟨f, fd, ps, hf, F.kp, hb, ?_⟩
  obtain ⟨c1, c2, c3, c4, c5, c6, c7, c8, c9, rfl, l, hc⟩ := F.ex
  refine L2H.fn_ofH l hc S (fun vs H Q E z => z.1) fun A outer s H vs Q E p hot r z => ?_
  obtain ⟨hl, w, ds, h, ok, rv, q⟩ := z
  refine ⟨_, hbody f c7 A outer s H E p ⟨p, ⟨hot.1, hot.2⟩, List.mem_cons_self⟩ r, w, env0 N.length ds, h, ok, env0_ok rv, ?_⟩
  unfold run at q
  revert q
  cases b (env0 N.length ds) h with
  | nx e1 h1 => exact fun p σ' w' H' s ok' er' => p _ _ _ s ok' .non
  | bk e1 h1 => exact fun p => p.elim
  | ct e1 h1 => exact fun p => p.elim
  | rt e1 h1 => exact fun p => p
  | er c fs e1 h1 => exact fun p cv d σ' w' H' hc s ok' er' x => p cv d w' H' hc s ok' x
  | stuck => exact fun p => p
theorem OkH.zero [Tbl] {x : Str} {st : Stmt} {ps : List Str} {k n : Nat} (h : Has K mg x st ps) (hn : ps.length = n) : OkH P wd K mg base x k n (fun _ _ => .stuck) := by
  obtain ⟨f, fd, F, hf, hb⟩ := h
  subst hn
  exact ⟨f, fd, ps, hf, F.kp, hb, fun vs H Q E h => h.1, fun A outer s H args us vs Q E _ _ _ _ _ _ _ ⟨_, _, _, _, _, _, p⟩ => p.elim⟩
end
section
variable {X : Cx} {W : WX} {k j n : Nat} {x : Str} {p pos : Pos} {e : Expr} {es : List Expr} {m : MF} {ma : MA}
theorem e_fh [Tbl] (F : OkH X.prog X.w X.K X.mg X.base x k n m) (hr : L2H.RoomH j X.A) (hk : k ≤ j) (hc : L2H.HotC X) (tk : L2N.Takes X W) (ha : PA X (e :: es) (tA X.K X.mg W ma)) (hn : ∀ env h ds h', ma env h = .ok ds h' → ds.length = n) (hg : Gl X x) (hdb : (x == ("__debug__" : Str)) = false := by decide)
    (he : starEach (e :: es) X.env = (false, eval e X.env) :: starEach es X.env := by rfl) (hpl : (backTo pos (starEach es X.env)).any (·.1) = false := by rfl) : PE X (.Call (.Name x p) (e :: es) [] pos) (tE X.K X.mg W (mCall m ma)) := by
  obtain ⟨f, fd, ps, hm, kp, hb, F⟩ := F.ex
  exact PE.imp (L2H.pe_callH F (hr.mono hk) hc hg hm kp hb (fun σ => L2N.passAt tk σ) ha hdb he hpl) (t_call (fun _ _ _ h => h) hn)
end
/-- for k in range(n) there -/
theorem s_forh [Tbl] {X : Cx} {W : WX} {tg a : Expr} {body : List Stmt} {m : MA} {g : TG} {mg : MG} {vs : List Nat} {b : MS} {p pos2 pos : Pos} (hp : PassesOwn (model X.prog X.w) X.A X.env X.xe) (hc : L2H.HotC X) (hm : X.mg "range" = none) (hgl : Gl X "range") (ha : PA X [a] (tA X.K X.mg W m)) (hg : PG X tg g) (hb : TgS X.K g mg vs) (hbd : PSs X body (tS X.K X.mg W b))
    (hsa : starEach [a] X.env = [(false, eval a X.env)] := by rfl) (hs : ∀ x, foldedSetIterable (.Call (.Name "range" p) [a] [] pos2) X.env x = pure x := by intro _; rfl) : PS X (.For tg (.Call (.Name "range" p) [a] [] pos2) body [] pos) (tS X.K X.mg W (mFor (mRng rng1 m) mg b)) :=
  PS.imp (L2H.ps_forH hp hc (L2H.pi_range1H hgl hm ha hsa) hg hbd hs) (t_for (fun σ H Q ⟨w, env, h, ok, er, p⟩ => ⟨w, env, h, ok, er, Post.bind p fun vs ds w' H' h' s ok' vr p' => by
    obtain ⟨d, e, q⟩ := ofO_post p'
    unfold rng1 at e
    split at e
    · split at e
      · next c =>
        cases e
        obtain ⟨x, rfl, r⟩ := vrs1 vr
        cases r
        exact ⟨_, rfl, c.1, c.2, q _ _ _ (Step.refl _ _) ok' ⟨_, trivial, wk_rng⟩⟩
      · cases e
    · cases e⟩) hb fun _ _ _ h => h)

section
variable {X : Cx} {a : Addr} {oe : Obj} {pn : List (Addr × Obj)} {d : Option Addr} {i : Nat} {fs : Option (List (Str × D))}
theorem hot_suite {cv : Value} (hz : L2N.Zn cv d oe) (hf : ∃ vs, oe.data = .fields vs) : L2H.HotC (X.suite a ((a, oe) :: pn)) := by
  obtain ⟨vs, hv⟩ := hf
  exact ⟨(a, oe), ⟨rfl, vs, hv, hz.2.2 vs hv⟩, List.mem_cons_self⟩
theorem sp_call [Tbl] {k j n : Nat} {x : Str} {p pos : Pos} {e : Expr} {es : List Expr} {m : MF} {ma : MA} {cv : Value} (F : OkH X.prog X.w X.K X.mg X.base x k n m) (hr : Room j X.A) (hk : k ≤ j) (hz : L2N.Zn cv d oe) (hf : ∃ vs, oe.data = .fields vs) (ha : SPA X a oe pn d i fs (e :: es) ma) (hn : ∀ env h ds h', ma env h = .ok ds h' → ds.length = n) (hg : Gl X x) (hdb : (x == ("__debug__" : Str)) = false := by decide)
    (he : starEach (e :: es) (X.suite a ((a, oe) :: pn)).env = (false, eval e (X.suite a ((a, oe) :: pn)).env) :: starEach es (X.suite a ((a, oe) :: pn)).env := by rfl) (hpl : (backTo pos (starEach es (X.suite a ((a, oe) :: pn)).env)).any (·.1) = false := by rfl) : SPE X a oe pn d i fs (.Call (.Name x p) (e :: es) [] pos) (mCall m ma) := by
  obtain ⟨f, fd, ps, hm, kp, hb, F⟩ := F.ex
  obtain ⟨t, ht, s⟩ := ha
  have hr2 : L2H.RoomH k (X.suite a ((a, oe) :: pn)).A := ⟨by have := (hr.mono hk).dp; exact this, by have := (hr.mono hk).un; exact this⟩
  refine ⟨_, L2H.pe_callH (X := X.suite a ((a, oe) :: pn)) (E := fun _ _ _ _ => False) F hr2 (hot_suite hz hf) hg hm kp hb (fun σ => L2N.passAt (W := W0) none_out σ) ht hdb he hpl, fun w σ H env h Q ok er sl xr q => s w σ H env h _ ok er sl xr ?_⟩
  have hn' := hn env h
  unfold mCall at q
  revert q hn'
  cases ma env h with
  | ok ds h1 => exact fun q hn' v w' H' st ok' vr => ⟨by rw [vr.length]; exact hn' ds h1 rfl, w', ds, h1, ok', vr, Post.step st q⟩
  | err c fs h1 => exact fun q _ => q
  | stuck => exact fun q _ => q
end
/-! ### ord, partition, chains -/
/-! ### __init__ of an own exception class -/
def inner (s : Stmt) : Stmt := match s with
  | .ClassDef (body := b :: _) .. => b
  | s => s
theorem hunits {k : Nat} {A : Around} (r : L2H.RoomH k A) : A.units + 64 < cLine := by
  have := r.un
  omega
section
variable {K : PySem.W.Frag} {C a : Addr} {f0 f1 f2 : Str} {w0 w1 w2 : V} {H : Hp} {Q : VK} {D : Ends} {n0 : Str}
theorem two_upd {d : Addr} {x y z : HO} (h : d ≠ a) : upd (upd (upd H d x) a y) d z = upd (upd H d z) a y := by
  funext b
  by_cases hb : b = d
  · subst hb
    rw [upd_same, upd_ne h, upd_same]
  · rw [upd_ne hb]
    by_cases ha : b = a
    · rw [ha, upd_same, upd_same]
    · rw [upd_ne ha, upd_ne ha, upd_ne hb, upd_ne hb]
theorem ini_2 (T : OexC K C) (hn : ∀ f ∈ [f0, f1], PySem.W.findIn K (.ref C) f = some none) (e : H a = some (exo a C none)) (q : ∀ d, H d = none → d ≠ a → Q .non (upd (upd H d (exd d ([f0, f1].zip [w0, w1]).reverse)) a (exo a C (some d)))) (hD : ∀ σ H', Q .non H' → D.nx σ H') :
    tSeq (tOst K f0 (tVar 0) (tVar 1)) (tOst K f1 (tVar 0) (tVar 2)) D (L2.start [n0, f0, f1] [.ref a, w0, w1]) H :=
  ⟨w0, rfl, .ref a, rfl, a, C, rfl, T, hn _ (by simp), .inl ⟨e, fun d hd hda => ⟨w1, rfl, .ref a, rfl, a, C, rfl, T, hn _ (by simp), .inr ⟨d, _, upd_same, by rw [upd_ne hda, upd_same], by simp, by
    rw [two_upd hda]
    exact hD _ _ (q d hd hda)⟩⟩⟩⟩
end
end
end Vi

set_option Elab.async false
set_option linter.all false
set_option autoImplicit false
set_option maxRecDepth 100000
set_option maxHeartbeats 2000000
namespace Vi
open PySem PySem.Spec PyProof.Rows L2
open scoped Classical
noncomputable section
variable {gm : Str → Option Value}
/-! ### f"text{x}" -/
section
variable {X : Cx} {W : WX}
end
/-! ### xs.extend(ys), xs.pop(i) -/
def gExtend : D → List D → Hap → Rs D := fun a ds h => match a, ds with
  | .ref i, [d] => match h[i]?, getM d h with
    | some (.lst xs), some zs => if xs.length + zs.length ≤ sizeLine then .ok .non (h.set i (.lst (xs ++ zs))) else .stuck
    | _, _ => .stuck
  | _, _ => .stuck
theorem s_extend [Tbl] {K : PySem.W.Frag} : MetS K gm rExtend gExtend := by
  intro w H h x xs a ds Q E ok r1 r2 p
  unfold gExtend at p
  split at p
  · next i d =>
    split at p
    · next zs ys e1 eM =>
      split at p
      · next hl =>
        obtain ⟨v, rfl, r3⟩ := vrs1 r2
        cases r1
        next a e2 =>
        obtain ⟨_, o, e3, e4⟩ := ok.cel i a _ e2 e1
        cases o <;> simp [CRel] at e4
        next vs =>
        obtain ⟨b, us, rfl, e5, e6⟩ := getM_ok ok r3 eM
        have q := ok.write (hn := by rw [e1]; exact fun _ z => nomatch z) (o := .lst (vs ++ us)) (c := .lst (zs ++ ys)) e2 (VRs.append e4 e6)
        exact ⟨a, b, vs, us, rfl, rfl, e3, e5, by rw [e4.length, e6.length]; exact hl, p _ _ _ q.2 q.1 .non⟩
      · exact p.elim
    · exact p.elim
  · exact p.elim
def gPopAt : D → List D → Hap → Rs D := fun a ds h => match a, ds with
  | .ref i, [.int j] => match h[i]? with
    | some (.lst xs) => if 0 ≤ j ∧ j < 2 ^ 63 then (match xs[j.toNat]? with
        | some y => .ok y (h.set i (.lst (xs.eraseIdx j.toNat)))
        | none => .stuck) else .stuck
    | _ => .stuck
  | _, _ => .stuck
theorem VRs.erase {K : PySem.W.Frag} {w : Wd} : ∀ {vs : List V} {ds : List D} (n : Nat), VRs K w vs ds → VRs K w (vs.eraseIdx n) (ds.eraseIdx n)
  | _, _, n, .nil => by simpa using VRs.nil
  | _, _, 0, .cons r rs => rs
  | _, _, n + 1, .cons r rs => .cons r (VRs.erase n rs)
theorem s_popAt [Tbl] {K : PySem.W.Frag} : MetS K gm rPopAt gPopAt := by
  intro w H h x xs a ds Q E ok r1 r2 p
  unfold gPopAt at p
  split at p
  · next i j =>
    split at p
    · next zs e1 =>
      split at p
      · next hj =>
        split at p
        · next y ey =>
          obtain ⟨v, rfl, r3⟩ := vrs1 r2
          cases r3
          cases r1
          next a e2 =>
          obtain ⟨_, o, e3, e4⟩ := ok.cel i a _ e2 e1
          cases o <;> simp [CRel] at e4
          next vs =>
          have hlt : j.toNat < zs.length := (List.getElem?_eq_some_iff.mp ey).1
          obtain ⟨u, eu, ru⟩ := e4.get' ey
          have q := ok.write (hn := by rw [e1]; exact fun _ z => nomatch z) (o := .lst (vs.eraseIdx j.toNat)) (c := .lst (zs.eraseIdx j.toNat)) e2 (VRs.erase _ e4)
          refine ⟨a, vs, j, j.toNat, u, rfl, rfl, e3, by omega, hj.2, ?_, eu, p _ _ _ q.2 q.1 (ru.mono q.2)⟩
          have hl := e4.length
          have hj1 := hj.1
          unfold seqIndex?
          have n0 : ¬ j < 0 := by omega
          have n1 : (decide (0 ≤ j) && decide (j < (vs.length : Int))) = true := by
            rw [Bool.and_eq_true, decide_eq_true_iff, decide_eq_true_iff]
            omega
          simp only [if_neg n0]
          exact if_pos n1
        · exact p.elim
      · exact p.elim
    · exact p.elim
  · exact p.elim
/-! ### int(text) -/
end
end Vi

set_option Elab.async false
set_option linter.all false
set_option autoImplicit false
set_option maxRecDepth 100000
set_option maxHeartbeats 2000000
namespace Vi
open PySem PySem.Spec PyProof.Rows L2
open scoped Classical
noncomputable section
variable {gm : Str → Option Value}
/-! ### dicts as cells, keys ints or texts -/
def getD (d : D) (h : Hap) : Option (List (Key × D)) := match d with
  | .ref i => match h[i]? with
    | some (.dct kvs) => some kvs
    | _ => none
  | _ => none
def keyD : D → Option Key
  | .int i => some (.inl i)
  | .str x => some (.inr x)
  | _ => none
def keyV : Key → D
  | .inl i => .int i
  | .inr x => .str x
def valD (kvs : List (Key × D)) (k : Key) : Option D := (kvs.find? fun kv => decide (kv.1 = k)).map (·.2)
def putD (kvs : List (Key × D)) (k : Key) (v : D) : List (Key × D) :=
  if (kvs.any fun kv => decide (kv.1 = k)) = true then kvs.map (fun kv => if kv.1 = k then (kv.1, v) else kv) else kvs ++ [(k, v)]
def dropD (kvs : List (Key × D)) (k : Key) : List (Key × D) := kvs.filter fun kv => decide (kv.1 ≠ k)
section
variable {K : PySem.W.Frag}
inductive KVR (K : PySem.W.Frag) (w : Wd) : List (Key × V) → List (Key × D) → Prop
  | nil : KVR K w [] []
  | cons {k : Key} {v : V} {d : D} {vs : List (Key × V)} {ds : List (Key × D)} : VR K w v d → KVR K w vs ds → KVR K w ((k, v) :: vs) ((k, d) :: ds)
variable {w : Wd}
theorem kvr_of : ∀ {vs : List (Key × V)} {ds : List (Key × D)}, vs.map Prod.fst = ds.map Prod.fst → VRs K w (vs.map Prod.snd) (ds.map Prod.snd) → KVR K w vs ds
  | [], [], _, _ => .nil
  | [], _ :: _, h, _ => by simp at h
  | _ :: _, [], h, _ => by simp at h
  | (k, v) :: vs, (k2, d) :: ds, h, r => by
    simp only [List.map_cons, List.cons.injEq] at h
    obtain ⟨rfl, h⟩ := h
    rw [List.map_cons, List.map_cons] at r
    cases r with
    | cons a b => exact .cons a (kvr_of h b)
theorem KVR.fst : ∀ {vs : List (Key × V)} {ds : List (Key × D)}, KVR K w vs ds → vs.map Prod.fst = ds.map Prod.fst
  | _, _, .nil => rfl
  | _, _, .cons _ t => by rw [List.map_cons, List.map_cons, t.fst]
theorem KVR.snd : ∀ {vs : List (Key × V)} {ds : List (Key × D)}, KVR K w vs ds → VRs K w (vs.map Prod.snd) (ds.map Prod.snd)
  | _, _, .nil => .nil
  | _, _, .cons a t => by rw [List.map_cons, List.map_cons]; exact .cons a t.snd
theorem KVR.len {vs : List (Key × V)} {ds : List (Key × D)} (r : KVR K w vs ds) : vs.length = ds.length := by
  have := congrArg List.length r.fst
  simpa using this
theorem KVR.mono {w' : Wd} {H H' : Hp} (s : Step w H w' H') : ∀ {vs : List (Key × V)} {ds : List (Key × D)}, KVR K w vs ds → KVR K w' vs ds
  | _, _, .nil => .nil
  | _, _, .cons a t => .cons (a.mono s) (t.mono s)
theorem KVR.val : ∀ {vs : List (Key × V)} {ds : List (Key × D)} (k : Key), KVR K w vs ds → (valV vs k = none ∧ valD ds k = none) ∨ ∃ v d, valV vs k = some v ∧ valD ds k = some d ∧ VR K w v d
  | _, _, _, .nil => .inl ⟨rfl, rfl⟩
  | (k0, v) :: vs, (_, d) :: ds, k, .cons a t => by
    unfold valV valD
    by_cases e : k0 = k
    · right
      exact ⟨v, d, by simp [List.find?_cons, e], by simp [List.find?_cons, e], a⟩
    · rcases KVR.val k t with ⟨h1, h2⟩ | ⟨v2, d2, h1, h2, h3⟩
      · left
        unfold valV at h1
        unfold valD at h2
        simp only [List.find?_cons, e, decide_false]
        exact ⟨h1, h2⟩
      · right
        unfold valV at h1
        unfold valD at h2
        simp only [List.find?_cons, e, decide_false]
        exact ⟨v2, d2, h1, h2, h3⟩
theorem KVR.any : ∀ {vs : List (Key × V)} {ds : List (Key × D)} (k : Key), KVR K w vs ds → (vs.any fun kv => decide (kv.1 = k)) = ds.any fun kv => decide (kv.1 = k)
  | _, _, _, .nil => rfl
  | _, _, k, .cons a t => by rw [List.any_cons, List.any_cons, KVR.any k t]
theorem KVR.repl {v0 : V} {d0 : D} (r : VR K w v0 d0) (k : Key) : ∀ {vs : List (Key × V)} {ds : List (Key × D)}, KVR K w vs ds → KVR K w (vs.map fun kv => if kv.1 = k then (kv.1, v0) else kv) (ds.map fun kv => if kv.1 = k then (kv.1, d0) else kv)
  | _, _, .nil => .nil
  | (k0, _) :: _, _, .cons a t => by
    rw [List.map_cons, List.map_cons]
    by_cases e : k0 = k
    · simp only [e, if_true]
      exact .cons r (KVR.repl r k t)
    · simp only [e, if_false]
      exact .cons a (KVR.repl r k t)
theorem KVR.app : ∀ {vs vs' : List (Key × V)} {ds ds' : List (Key × D)}, KVR K w vs ds → KVR K w vs' ds' → KVR K w (vs ++ vs') (ds ++ ds')
  | _, _, _, _, .nil, t => t
  | _, _, _, _, .cons a b, t => .cons a (KVR.app b t)
theorem KVR.put {v0 : V} {d0 : D} (r : VR K w v0 d0) (k : Key) {vs : List (Key × V)} {ds : List (Key × D)} (t : KVR K w vs ds) : KVR K w (putK vs k v0) (putD ds k d0) := by
  unfold putK putD
  rw [t.any k]
  by_cases c : (ds.any fun kv => decide (kv.1 = k)) = true
  · rw [if_pos c, if_pos c]
    exact t.repl r k
  · rw [if_neg c, if_neg c]
    exact t.app (.cons r .nil)
theorem KVR.drop (k : Key) : ∀ {vs : List (Key × V)} {ds : List (Key × D)}, KVR K w vs ds → KVR K w (dropK vs k) (dropD ds k)
  | _, _, .nil => .nil
  | (k0, _) :: _, _, .cons a t => by
    unfold dropK dropD
    rw [List.filter_cons, List.filter_cons]
    by_cases e : k0 = k
    · simp only [e, ne_eq, not_true, decide_false]
      exact KVR.drop k t
    · simp only [e, ne_eq, not_false_iff, decide_true, if_true]
      exact .cons a (KVR.drop k t)
variable {H : Hp} {h : Hap} {x : V} {d : D} {ds : List (Key × D)}
theorem getD_ok [Tbl] (ok : Ok K w H h) (r : VR K w x d) (e : getD d h = some ds) : ∃ a i vs, x = .ref a ∧ d = .ref i ∧ w.ρ[i]? = some a ∧ h[i]? = some (.dct ds) ∧ H a = some (.dK vs) ∧ KVR K w vs ds := by
  cases r <;> simp [getD] at e
  next a i e1 =>
  split at e
  · next xs e2 =>
    cases e
    obtain ⟨_, o, e3, e4⟩ := ok.cel i a _ e1 e2
    cases o <;> simp [CRel] at e4
    next vs => exact ⟨a, i, vs, rfl, rfl, e1, e2, e3, kvr_of e4.1 e4.2⟩
  · cases e
theorem keyD_ok {k : Key} (r : VR K w x d) (e : keyD d = some k) : x = kV k := by
  cases r <;> simp [keyD] at e <;> subst e <;> rfl
theorem vr_keyV (k : Key) : VR K w (kV k) (keyV k) := by
  cases k with
  | inl i => exact .int i
  | inr i => exact .str i
theorem Ok.dwrite [Tbl] {i : Nat} {a : Addr} {vs : List (Key × V)} (ok : Ok K w H h) (hn : ∀ kds, h[i]? ≠ some (.lok kds)) (hi : w.ρ[i]? = some a) (r : KVR K w vs ds) : Ok K w (upd H a (.dK vs)) (h.set i (.dct ds)) ∧ Step w H w (upd H a (.dK vs)) := ok.write hn hi ⟨r.fst, r.snd⟩
end
/-! {} -/
def mDNew : ME := fun _ h => .ok (.ref h.length) (h ++ [.dct []])
section
variable {X : Cx} {W : WX}
theorem e_dnew [Tbl] {pos : Pos} : PE X (.Dict [] [] pos) (tE X.K X.mg W mDNew) := PE.imp pe_dnewK fun σ H Q ⟨w, env, h, ok, er, p⟩ a ha => by
  have q := ok.cell (c := .dct []) (o := .dK []) ha ⟨rfl, .nil⟩
  refine p _ _ _ q.2 q.1 (.ref ?_)
  show (w.ρ ++ [a])[h.length]? = some a
  rw [← ok.len, List.getElem?_append_right (Nat.le_refl _), Nat.sub_self]
  rfl
/-! d[k], k in d, k not in d -/
def dDGet : D → D → Hap → Option D := fun a b h => match getD a h, keyD b with
  | some kvs, some k => valD kvs k
  | _, _ => none
def rDGet : R2 := fun x y H Q => ∃ a v, x = .ref a ∧ DGet H a y (some v) ∧ Q v H
theorem s_dget [Tbl] {K : PySem.W.Frag} : OpS K rDGet dDGet := by
  intro w H h x y a b d Q ok vx vy e q
  unfold dDGet at e
  split at e
  · next kvs k e1 e2 =>
    obtain ⟨p, i, vs, rfl, rfl, h1, h2, h3, r⟩ := getD_ok ok vx e1
    have q1 := keyD_ok vy e2
    subst q1
    rcases r.val k with ⟨z1, z2⟩ | ⟨v, d2, z1, z2, z3⟩
    · rw [e] at z2; cases z2
    · rw [e] at z2
      cases z2
      exact ⟨p, v, rfl, z1 ▸ DGet.k h3, q _ _ _ (Step.refl _ _) ok z3⟩
  · cases e
theorem e_dget [Tbl] {o i : Expr} {mo mi : ME} {pos : Pos} (hu : X.A.units + 64 < cLine) (ho : PE X o (tE X.K X.mg W mo)) (hi : PE X i (tE X.K X.mg W mi)) (hs : NoSl i) : PE X (.Subscript o i pos) (tE X.K X.mg W (mBin dDGet mo mi)) :=
  PE.imp (pe_dget (by omega) ho hi hs) (t_bin s_dget)
def dDIn : D → D → Hap → Option D := fun b a h => match getD a h, keyD b with
  | some kvs, some k => some (.bl (valD kvs k).isSome)
  | _, _ => none
def dDNotIn : D → D → Hap → Option D := fun b a h => match getD a h, keyD b with
  | some kvs, some k => some (.bl (!(valD kvs k).isSome))
  | _, _ => none
def rDIn : R2 := fun y x H Q => ∃ a o, x = .ref a ∧ DGet H a y o ∧ Q (.bl o.isSome) H
def rDNotIn : R2 := fun y x H Q => ∃ a o, x = .ref a ∧ DGet H a y o ∧ Q (.bl (!o.isSome)) H
theorem op_din (hu : X.A.units + 64 < cLine) : OpR X (compareOp .In) rDIn := by
  intro pins s σ H x y v u Q I rx ry h
  obtain ⟨a, o, rfl, g, q⟩ := h
  obtain rfl : u = Value.ref a := ry
  exact d_in (by omega) I g rx fun s' I' => ⟨.bl o.isSome, H, I', rfl, q⟩
theorem op_dnotin (hu : X.A.units + 64 < cLine) : OpR X (compareOp .NotIn) rDNotIn := by
  intro pins s σ H x y v u Q I rx ry h
  obtain ⟨a, o, rfl, g, q⟩ := h
  obtain rfl : u = Value.ref a := ry
  exact d_notIn (by omega) I g rx fun s' I' => ⟨.bl (!o.isSome), H, I', rfl, q⟩
theorem KVR.isSome {K : PySem.W.Frag} {w : Wd} {vs : List (Key × V)} {ds : List (Key × D)} (r : KVR K w vs ds) (k : Key) : (valV vs k).isSome = (valD ds k).isSome := by
  rcases r.val k with ⟨z1, z2⟩ | ⟨v, d2, z1, z2, z3⟩ <;> rw [z1, z2] <;> rfl
theorem s_din [Tbl] {K : PySem.W.Frag} : OpS K rDIn dDIn := by
  intro w H h x y a b d Q ok vx vy e q
  unfold dDIn at e
  split at e
  · next kvs k e1 e2 =>
    cases e
    obtain ⟨p, i, vs, rfl, rfl, h1, h2, h3, r⟩ := getD_ok ok vy e1
    have q1 := keyD_ok vx e2
    subst q1
    exact ⟨p, _, rfl, DGet.k h3, by rw [r.isSome k]; exact q _ _ _ (Step.refl _ _) ok (.bl _)⟩
  · cases e
theorem s_dnotin [Tbl] {K : PySem.W.Frag} : OpS K rDNotIn dDNotIn := by
  intro w H h x y a b d Q ok vx vy e q
  unfold dDNotIn at e
  split at e
  · next kvs k e1 e2 =>
    cases e
    obtain ⟨p, i, vs, rfl, rfl, h1, h2, h3, r⟩ := getD_ok ok vy e1
    have q1 := keyD_ok vx e2
    subst q1
    exact ⟨p, _, rfl, DGet.k h3, by rw [r.isSome k]; exact q _ _ _ (Step.refl _ _) ok (.bl _)⟩
  · cases e
/-! len(d) -/
/-! list(d) -/
theorem KVR.keys {K : PySem.W.Frag} {w : Wd} : ∀ {vs : List (Key × V)} {ds : List (Key × D)}, KVR K w vs ds → VRs K w (vs.map fun kv => kV kv.1) (ds.map fun kv => keyV kv.1)
  | _, _, .nil => .nil
  | _, _, .cons _ t => .cons (vr_keyV _) t.keys
/-! d[k] = v, del d[k] -/
def sDix : D → D → D → Hap → Option Hap := fun o i v h => match o, keyD i with
  | .ref j, some k => match h[j]? with
    | some (.dct kvs) => if kvs.length < sizeLine then some (h.set j (.dct (putD kvs k v))) else none
    | _ => none
  | _, _ => none
def mDSub (a o i : ME) : MS := fun env h => RsS (a env h) env fun d h1 => RsS (o env h1) env fun od h2 => RsS (i env h2) env fun id h3 => match sDix od id d h3 with
  | some h4 => .nx env h4
  | none => .stuck
theorem s_dsub [Tbl] {o i e : Expr} {ma mo mi : ME} {pos pos' : Pos} (hu : X.A.units + 64 < cLine) (he : PE X e (tE X.K X.mg W ma)) (ho : PE X o (tE X.K X.mg W mo)) (hi : PE X i (tE X.K X.mg W mi)) (hs : swapsWith e (some (.Subscript o i pos')) pos.line X.env = pure false := by rfl) :
    PS X (.Assign [.Subscript o i pos'] e pos) (tS X.K X.mg W (mDSub ma mo mi)) := PS.imp (ps_dput (by omega) ho hi he hs) fun D σ H ⟨w, env, h, ok, er, p⟩ =>
  ⟨w, env, h, ok, er, PostS.bind er p fun v d w1 H1 h1 s1 ok1 v1 p1 => ⟨w1, env, h1, ok1, er.mono s1, PostS.bind (er.mono s1) p1 fun x od w2 H2 h2 s2 ok2 v2 p2 =>
    ⟨w2, env, h2, ok2, (er.mono s1).mono s2, PostS.bind ((er.mono s1).mono s2) p2 fun y id w3 H3 h3 s3 ok3 v3 p3 => by
      cases e1 : sDix od id d h3 with
      | none => rw [e1] at p3; exact p3.elim
      | some h4 =>
        rw [e1] at p3
        unfold sDix at e1
        split at e1
        · next j k ek =>
          split at e1
          · next kvs ej =>
            split at e1
            · next hl =>
              cases e1
              have q1 := keyD_ok v3 ek
              subst q1
              have v2' := v2.mono s3
              obtain ⟨p, i2, vs, rfl, e9, h1', h2', h3', r⟩ := getD_ok (ds := kvs) ok3 v2' (by unfold getD; dsimp only; rw [ej])
              cases e9
              have rr := r.put ((v1.mono s2).mono s3) k
              refine ⟨p, _, rfl, DPut.k h3' (by rw [r.len]; exact hl), ?_⟩
              have z := ok3.dwrite (by rw [h2']; exact fun _ z => nomatch z) h1' rr
              exact p3 σ w3 _ z.2 z.1 (((er.mono s1).mono s2).mono s3)
            · cases e1
          · cases e1
        · cases e1⟩⟩⟩
/-! methods: get, pop, setdefault -/
theorem isD_of [Tbl] {K : PySem.W.Frag} {w : Wd} {H : Hp} {h : Hap} {x : V} {d : D} (ok : Ok K w H h) (r : VR K w x d) (e : isT "dict" d h = true) : ∃ a, x = .ref a ∧ IsD H a := by
  cases r <;> simp [isT] at e
  next a i e1 =>
  split at e
  · simp at e
  · next xs e2 =>
    obtain ⟨_, o, e3, e4⟩ := ok.cel i a _ e1 e2
    cases o <;> simp [CRel] at e4
    exact ⟨a, rfl, .inl ⟨_, .inl e3⟩⟩
  · cases e
def dGet2 : D → List D → Hap → Option D := fun a ds h => match ds with
  | [k, z] => match getD a h, keyD k with
    | some kvs, some k => some ((valD kvs k).getD z)
    | _, _ => none
  | _ => none
def gSetd : D → List D → Hap → Rs D := fun a ds h => match a, ds with
  | .ref i, [k, z] => match h[i]?, keyD k with
    | some (.dct kvs), some k => if kvs.length < sizeLine then match valD kvs k with
      | some v => .ok v h
      | none => .ok z (h.set i (.dct (putD kvs k z)))
      else .stuck
    | _, _ => .stuck
  | _, _ => .stuck
theorem KVR.getD_ {K : PySem.W.Frag} {w : Wd} {vs : List (Key × V)} {ds : List (Key × D)} (r : KVR K w vs ds) (k : Key) {v : V} {d : D} (r0 : VR K w v d) : VR K w ((valV vs k).getD v) ((valD ds k).getD d) := by
  rcases r.val k with ⟨z1, z2⟩ | ⟨v, d2, z1, z2, z3⟩
  · rw [z1, z2]; exact r0
  · rw [z1, z2]; exact z3
section
variable {o e f : Expr} {apos cpos : Pos} {mo me mf : ME}
theorem bind2 {α β γ : Type} (r : Rs α) (f : α → Hap → Rs β) (g : β → Hap → Rs γ) : (r.bind f).bind g = r.bind fun x h => (f x h).bind g := by cases r <;> rfl
theorem e_dget2 [Tbl] (hu : X.A.units + 64 < cLine) (ho : PE X o (tE X.K X.mg W mo)) (he : PE X e (tE X.K X.mg W me)) (hf : PE X f (tE X.K X.mg W mf)) (m : M2 X o "get" apos e f cpos) :
    PE X (.Call (.Attribute o "get" apos) [e, f] [] cpos) (tE X.K X.mg W (mMet "dict" (gP dGet2) mo (mCons me (mCons mf mNil)))) :=
  PE.imp (pe_dget2 (by omega) ho he hf m) fun σ H Q ⟨w, env, h, ok, er, p⟩ => ⟨w, env, h, ok, er, Post.bind p fun x da w1 H1 h1 s1 ok1 v1 p1 => by
    by_cases c : isT "dict" da h1 = true
    · rw [if_pos c] at p1
      obtain ⟨a, rfl, d⟩ := isD_of ok1 v1 c
      refine ⟨a, rfl, d, w1, env, h1, ok1, er.mono s1, ?_⟩
      unfold mCons at p1
      rw [bind2] at p1
      refine Post.bind p1 fun y dk w2 H2 h2 s2 ok2 v2 p2 => ⟨w2, env, h2, ok2, (er.mono s1).mono s2, ?_⟩
      rw [bind2, bind2] at p2
      refine Post.bind p2 fun z dz w3 H3 h3 s3 ok3 v3 p3 => ?_
      obtain ⟨dd, e1, q⟩ := ofO_post (show Post X.K X.mg (VR X.K) w3 H3 (ofO (dGet2 da [dk, dz] h3) h3) Q _ from p3)
      unfold dGet2 at e1
      dsimp only at e1
      split at e1
      · next kvs k e2 e3 =>
        cases e1
        have q1 := keyD_ok v2 e3
        subst q1
        obtain ⟨p, i, vs, e4, e5, h1', h2', h3', r⟩ := getD_ok ok3 ((v1.mono s2).mono s3) e2
        cases e4
        exact ⟨_, DGet.k h3', q _ _ _ (Step.refl _ _) ok3 (r.getD_ k v3)⟩
      · cases e1
    · rw [if_neg c] at p1
      exact p1.elim⟩
theorem e_dsetd [Tbl] (ho : PE X o (tE X.K X.mg W mo)) (he : PE X e (tE X.K X.mg W me)) (hf : PE X f (tE X.K X.mg W mf)) (m : M2 X o "setdefault" apos e f cpos) :
    PE X (.Call (.Attribute o "setdefault" apos) [e, f] [] cpos) (tE X.K X.mg W (mMet "dict" gSetd mo (mCons me (mCons mf mNil)))) :=
  PE.imp (pe_dsetd ho he hf m) fun σ H Q ⟨w, env, h, ok, er, p⟩ => ⟨w, env, h, ok, er, Post.bind p fun x da w1 H1 h1 s1 ok1 v1 p1 => by
    by_cases c : isT "dict" da h1 = true
    · rw [if_pos c] at p1
      obtain ⟨a, rfl, d⟩ := isD_of ok1 v1 c
      refine ⟨a, rfl, d, w1, env, h1, ok1, er.mono s1, ?_⟩
      unfold mCons at p1
      rw [bind2] at p1
      refine Post.bind p1 fun y dk w2 H2 h2 s2 ok2 v2 p2 => ⟨w2, env, h2, ok2, (er.mono s1).mono s2, ?_⟩
      rw [bind2, bind2] at p2
      refine Post.bind p2 fun z dz w3 H3 h3 s3 ok3 v3 p3 => ?_
      have p4 : Post X.K X.mg (VR X.K) w3 H3 (gSetd da [dk, dz] h3) Q _ := p3
      unfold gSetd at p4
      split at p4
      · next a0 b0 i k z0 e9 =>
        cases e9
        split at p4
        · next kvs k e2 e3 =>
          have q1 := keyD_ok v2 e3
          subst q1
          obtain ⟨p, i, vs, e4, e5, h1', h2', h3', r⟩ := getD_ok (ds := kvs) ok3 ((v1.mono s2).mono s3) (by unfold getD; dsimp only; rw [e2])
          cases e4
          cases e5
          split at p4
          · next hl =>
            refine ⟨vs, k, h3', rfl, by rw [r.len]; exact hl, fun v hv => ?_, fun hn => ?_⟩
            · rcases r.val k with ⟨z1, z2⟩ | ⟨v', d2, z1, z2, z3⟩
              · rw [hv] at z1; cases z1
              · rw [hv] at z1
                cases z1
                rw [z2] at p4
                exact p4 _ _ _ (Step.refl _ _) ok3 z3
            · rcases r.val k with ⟨z1, z2⟩ | ⟨v', d2, z1, z2, z3⟩
              · rw [z2] at p4
                have zz := ok3.dwrite (by rw [h2']; exact fun _ z => nomatch z) h1' (r.put v3 k)
                exact p4 _ w3 _ zz.2 zz.1 v3
              · rw [hn] at z1; cases z1
          · exact p4.elim
        · exact p4.elim
      · exact p4.elim
    · rw [if_neg c] at p1
      exact p1.elim⟩
end
end
end
end Vi

set_option Elab.async false
set_option linter.all false
set_option autoImplicit false
set_option maxRecDepth 100000
set_option maxHeartbeats 2000000
namespace Vi
open PySem PySem.Spec PySem.Calls PyProof.Rows L2 L2.DX
open scoped Classical
noncomputable section
variable {gm : Str → Option Value}
/-! ### sorted(d.items()) -/
mutual
theorem dp_keep {K : PySem.W.Frag} {H H' : Hp} (k : ∀ b o, H b = some o → H' b = some o) : ∀ {v : V} {d : PyData}, Dp K H v d → Dp K H' v d
  | _, _, .non => .non
  | _, _, .bl b => .bl b
  | _, _, .int i => .int i
  | _, _, .str i => .str i
  | _, _, .lst e t => .lst (sqL_mono k e) (dps_keep k t)
  | _, _, .tup e t => .tup (sqT_mono k e) (dps_keep k t)
theorem dps_keep {K : PySem.W.Frag} {H H' : Hp} (k : ∀ b o, H b = some o → H' b = some o) : ∀ {v : List V} {d : List PyData}, DpAll K H v d → DpAll K H' v d
  | _, _, .nil => .nil
  | _, _, .cons a b => .cons (dp_keep k a) (dps_keep k b)
end
section
variable {X : Cx}
def keyP : Key → PyData
  | .inl i => .int i
  | .inr x => .str x
theorem dp_key {K : PySem.W.Frag} {H : Hp} (k : Key) : Dp K H (kV k) (keyP k) := by
  cases k with
  | inl i => exact .int i
  | inr x => exact .str x
theorem vrs_map {K : PySem.W.Frag} {w : Wd} {β : Type} {f : β → V} {g : β → D} : ∀ {l : List β}, (∀ b ∈ l, VR K w (f b) (g b)) → VRs K w (l.map f) (l.map g)
  | [], _ => .nil
  | b :: l, h => .cons (h b List.mem_cons_self) (vrs_map fun q m => h q (List.mem_cons_of_mem _ m))
end
/-! ### x in xs, deep -/
end
end Vi

set_option Elab.async false
set_option linter.all false
set_option autoImplicit false
set_option maxRecDepth 100000
set_option maxHeartbeats 2000000
namespace Vi
open PySem PySem.Spec PyProof.Rows L2
open scoped Classical
noncomputable section
variable {gm : Str → Option Value}
/-! ### objects of own classes: fields -/
def putFD (f : Str) (v : D) : List (Str × D) → List (Str × D)
  | [] => [(f, v)]
  | (g, x) :: r => if g = f then (g, v) :: r else (g, x) :: putFD f v r
section
variable {K : PySem.W.Frag} {w : Wd} {H : Hp} {h : Hap} {x : V} {d : D} {c : Str} {fds : List (Str × D)}
inductive FRel (K : PySem.W.Frag) (w : Wd) : List (Str × V) → List (Str × D) → Prop
  | nil : FRel K w [] []
  | cons {k : Str} {v : V} {d : D} {vs : List (Str × V)} {ds : List (Str × D)} : VR K w v d → FRel K w vs ds → FRel K w ((k, v) :: vs) ((k, d) :: ds)
theorem FRel.fst : ∀ {vs : List (Str × V)} {ds : List (Str × D)}, FRel K w vs ds → vs.map Prod.fst = ds.map Prod.fst
  | _, _, .nil => rfl
  | _, _, .cons _ t => by rw [List.map_cons, List.map_cons, t.fst]
theorem FRel.snd : ∀ {vs : List (Str × V)} {ds : List (Str × D)}, FRel K w vs ds → VRs K w (vs.map Prod.snd) (ds.map Prod.snd)
  | _, _, .nil => .nil
  | _, _, .cons a t => by rw [List.map_cons, List.map_cons]; exact .cons a t.snd
theorem FRel.len {vs : List (Str × V)} {ds : List (Str × D)} (r : FRel K w vs ds) : vs.length = ds.length := by
  have := congrArg List.length r.fst
  simpa using this
theorem FRel.mono {w' : Wd} {H H' : Hp} (s : Step w H w' H') : ∀ {vs : List (Str × V)} {ds : List (Str × D)}, FRel K w vs ds → FRel K w' vs ds
  | _, _, .nil => .nil
  | _, _, .cons a t => .cons (a.mono s) (t.mono s)
theorem FRel.put {v0 : V} {d0 : D} (r : VR K w v0 d0) (f : Str) : ∀ {vs : List (Str × V)} {ds : List (Str × D)}, FRel K w vs ds → FRel K w (putF f v0 vs) (putFD f d0 ds)
  | _, _, .nil => .cons r .nil
  | (k0, v) :: vs, (_, d) :: ds, .cons a t => by
    unfold putF putFD
    by_cases e : k0 = f
    · rw [if_pos e, if_pos e]
      exact .cons r t
    · rw [if_neg e, if_neg e]
      exact .cons a (FRel.put r f t)
end
section
variable {X : Cx} {W : WX} {o e : Expr} {mo me : ME} {c f : Str} {pos pos' apos tpos : Pos}
end
/-! ### methods, making -/
/-- a method of the text as the top has left it -/
def HasM (K : PySem.W.Frag) (c nm qual : Str) (st : Stmt) (ps : List Str) : Prop := ∃ C f fd, PySem.W.nsIn K PySem.mainGlobals c = some (some (.ref C)) ∧ Cls K C ∧ Meth K C nm f ∧ Fun K nm qual st f fd ∧ Binds K fd ps []
structure OkM [Tbl] (P : Program) (wd : World) (K : PySem.W.Frag) (mg : Str → Option Value) (base : Heap) (c nm : Str) (k n : Nat) (m : MF) : Prop where
  ex : ∃ C f fd ps, PySem.W.nsIn K PySem.mainGlobals c = some (some (.ref C)) ∧ Cls K C ∧ Meth K C nm f ∧ Binds K fd ps [] ∧ FnOk P wd K mg base (L2N.CX P wd) k f fd ps (spM K mg n m)
/-- a class that can be made, its __init__ -/
def HasC (K : PySem.W.Frag) (mg : Str → Option Value) (c qual : Str) (st : Stmt) (ps : List Str) : Prop := ∃ C f fd, PySem.W.nsIn K PySem.mainGlobals c = some (some (.ref C)) ∧ mg c = some (.ref C) ∧ Mk K C f ∧ Fun K "__init__" qual st f fd ∧ Binds K fd ps []
structure OkC [Tbl] (P : Program) (wd : World) (K : PySem.W.Frag) (mg : Str → Option Value) (base : Heap) (c : Str) (k n : Nat) (m : MF) : Prop where
  ex : ∃ C f fd ps, PySem.W.nsIn K PySem.mainGlobals c = some (some (.ref C)) ∧ mg c = some (.ref C) ∧ Mk K C f ∧ Binds K fd ps [] ∧ FnOk P wd K mg base (L2N.CX P wd) k f fd ps (spM K mg n m)
section
variable {P : Program} {wd : World} {K : PySem.W.Frag} {mg : Str → Option Value} {base : Heap}
theorem OkM.mk' [Tbl] {c nm qual : Str} {st : Stmt} {N ps : List Str} {k n z : Nat} {b : MS} {m : MF} (h : HasM K c nm qual st ps) (S : FnScope N ps (defScope st)) (hn : ps.length = n) (hN : N.length = z) (hm : m = run z b)
    (hbody : ∀ (f : Addr) (cdv : Value) (A : Around) (outer : List PySem.Env) (s : Shared) (H : Hp) (E : XK), Room k (A.deeper (envOfC qual (defScope st) s.heap.objs.size f cdv)) →
      PSs (cxOf (L2N.CX P wd) P wd K mg base N qual (defScope st) f cdv A outer s H E) (defBody st) (tS K mg (fun cls d _ H => E cls d H) b)) : OkM P wd K mg base c nm (k + 1) n m := by
  obtain ⟨C, f, fd, hc, hC, me, F, hb⟩ := h
  subst hn hN hm
  exact ⟨C, f, fd, ps, hc, hC, me, hb, ok_fn F S (hbody f)⟩
theorem OkC.mk' [Tbl] {c qual : Str} {st : Stmt} {N ps : List Str} {k n z : Nat} {b : MS} {m : MF} (h : HasC K mg c qual st ps) (S : FnScope N ps (defScope st)) (hn : ps.length = n) (hN : N.length = z) (hm : m = run z b)
    (hbody : ∀ (f : Addr) (cdv : Value) (A : Around) (outer : List PySem.Env) (s : Shared) (H : Hp) (E : XK), Room k (A.deeper (envOfC qual (defScope st) s.heap.objs.size f cdv)) →
      PSs (cxOf (L2N.CX P wd) P wd K mg base N qual (defScope st) f cdv A outer s H E) (defBody st) (tS K mg (fun cls d _ H => E cls d H) b)) : OkC P wd K mg base c (k + 1) n m := by
  obtain ⟨C, f, fd, hc, hm', M, F, hb⟩ := h
  subst hn hN hm
  exact ⟨C, f, fd, ps, hc, hm', M, hb, ok_fn F S (hbody f)⟩
end
section
variable {X : Cx} {W : WX} {CX : CXT} {k j n : Nat} {f C : Addr} {fd : FuncData} {ps : List Str} {sp : Sp} {E : L2.St → XK} {x c m : Str} {p pos apos : Pos} {e o : Expr} {es : List Expr} {ta : TE} {t : TA} {mf : MF} {mo : ME} {ma : MA}
/-! making: the __init__ raises nothing -/
end
end
end Vi

set_option Elab.async false
set_option linter.all false
set_option autoImplicit false
set_option maxRecDepth 100000
set_option maxHeartbeats 2000000
namespace Vi
open PySem PySem.Spec PySem.Calls PyProof.Rows L2
open scoped Classical
noncomputable section
variable {gm : Str → Option Value}
/-! ### tuple(d) -/
section
variable {pg : Program} {wd : World} {B : Around} {err : Value → Shared → Prop} {st : Shared} {ty : String} {x dx : Addr} {m : Nat} {I : Nat → Value → Prop} {V : Heap → Prop}
/-- st2 is st with the dict's keys in the list at l, all else as it was -/
def Got (I : Nat → Value → Prop) (m : Nat) (st : Shared) (l : Addr) (st2 : Shared) : Prop := ∃ (g : Heap) (t : Nat) (ks : Array Value) (c : Nat), st2 = { st with heap := g, toks := t } ∧ (∀ b o, st.heap.get? b = some o → g.get? b = some o) ∧ g.get? l = some ⟨.type "list", none, .seq ks c, #[]⟩ ∧ ItemsOf I ks m
theorem kdl_collect {R : List Value → Shared → Prop} (src : PySem.W.KdlSrc pg wd ty x dx m I V) (calm : B.handled = none) (v0 : V st.heap) (few : m ≤ sizeLine)
    (go : ∀ (g : Heap) (t : Nat) (ks : Array Value), (∀ b o, st.heap.get? b = some o → g.get? b = some o) → ItemsOf I ks m → R ks.toList { st with heap := g, toks := t }) : wpAny (model pg wd) B (collect (.ref x)) R err st := by
  have lt := src.there _ v0
  have up : ∀ b o, st.heap.get? b = some o → (st.heap.push ⟨.type "list", none, .seq #[] 0, #[]⟩).get? b = some o := fun b o e => Heap.get?_push_of_some _ e
  have new : (st.heap.push ⟨.type "list", none, .seq #[] 0, #[]⟩).get? st.heap.objs.size = some ⟨.type "list", none, .seq #[] 0, #[]⟩ := Heap.get?_push_size _ rfl
  have ext := PySem.W.kdl_extend (A := B) (s := { st with heap := st.heap.push ⟨.type "list", none, .seq #[] 0, #[]⟩ }) (R := fun q st2 => q = .ok (.ret (.ref st.heap.objs.size)) ∧ Got I m st st.heap.objs.size st2)
    src calm (src.keep _ _ v0 fun b _ => up b) st.heap.objs.size (Nat.ne_of_gt lt.1) (Nat.ne_of_gt lt.2) (.ref st.heap.objs.size) 0 new
    (fun g t ks c kp a its => ⟨rfl, g, t, ks, c, rfl, fun b o e => kp b o (fun q => absurd (Heap.lt_size e) (by rw [q]; exact Nat.lt_irrefl _)) (up b o e), a, its⟩) few
  unfold collect
  refine wpAny_bind (wpAny_runValue (codeAny_builtin F.entry_proto_collect ?_))
  simp only [Around.under_plainId F.plain_proto_collect]
  refine wpAny_bind (m := newList []) (wpAny_newObj_type (wpAny_pure ⟨plainId_quiet F.plain_list_iadd _, codeAny_builtin F.entry_list_iadd ?_⟩))
  simp only [Around.under_plainId F.plain_list_iadd]
  refine wpAny_mono ext (fun f st2 z => ?_) fun e st2 z => nomatch z.1
  match f, z with
  | .done f, ⟨e, z⟩ =>
    cases e
    obtain ⟨g, t, ks, c, e, kp, at0, its⟩ := z
    subst e
    dsimp only
    exact wpAny_bind (wpAny_load at0 (wpAny_pure (go g t ks kp its)))
  | .again c, ⟨q, z⟩ =>
    refine ⟨q, codeAny_mono z fun r st3 y => ?_⟩
    obtain ⟨rfl, g, t, ks, c, e, kp, at0, its⟩ := y
    subst e
    dsimp only
    exact wpAny_bind (wpAny_load at0 (wpAny_pure (go g t ks kp its)))
end
end
end Vi

set_option Elab.async false
set_option linter.all false
set_option autoImplicit false
set_option maxRecDepth 100000
set_option maxHeartbeats 2000000
namespace Vi
open PySem PySem.Spec PyProof.Rows L2
open scoped Classical
noncomputable section
variable {gm : Str → Option Value}
/-! ### text.split(sep), a cell at once -/
end
end Vi

set_option Elab.async false
set_option linter.all false
set_option autoImplicit false
set_option maxRecDepth 100000
set_option maxHeartbeats 2000000
namespace Vi
open PySem PySem.Spec PyProof.Rows L2
open scoped Classical
noncomputable section
variable {gm : Str → Option Value}
/-! ### f-strings of two parts and more -/
inductive JM [Tbl] (X : Cx) (W : WX) : List Expr → List ME → Prop where
  | nil : JM X W [] []
  | cons {e : Expr} {m : ME} {es : List Expr} {ms : List ME} (h : PE X e (tE X.K X.mg W m)) (r : JM X W es ms) : JM X W (e :: es) (m :: ms)
section
variable {X : Cx} {W : WX}
end
/-! ### text.upper() -/
/-! ### o.f += a -/
section
variable {X : Cx} {W : WX}
end
end
end Vi

set_option Elab.async false
set_option linter.all false
set_option autoImplicit false
set_option maxRecDepth 100000
set_option maxHeartbeats 2000000
namespace Vi
open PySem PySem.Spec PyProof.Rows L2
open scoped Classical
noncomputable section
variable {gm : Str → Option Value}
/-! ### {k: v for x in xs if c}, a cell -/
def dcL (gd : Hap → Prop) (vs : List Nat) (g : MG) (c : MT) (k e : ME) (env : Env) : List D → Hap → List (Key × D) → Rs (List (Key × D))
  | [], h, acc => if gd h then .ok acc h else .stuck
  | x :: xs, h, acc => if gd h then match g x (wipeE env vs) h with
    | some e1 => (c e1 h).bindN fun t h1 => if t = true then (k e1 h1).bindN fun kd h2 => (e e1 h2).bindN fun y h3 => match keyD kd with
        | some kk => if acc.length < sizeLine then dcL gd vs g c k e env xs h3 (putD acc kk y) else .stuck
        | none => .stuck
      else dcL gd vs g c k e env xs h1 acc
    | none => .stuck
    else .stuck
def mDComp (s : MI) (vs : List Nat) (g : MG) (c : MT) (k e : ME) : ME := fun env h => (s env h).bind fun s h1 => (dcL s.2 vs g c k e env s.1 h1 []).bindN fun ys h2 => .ok (.ref h2.length) (h2 ++ [.dct ys])
theorem Ok.adoptC [Tbl] {K : PySem.W.Frag} {w : Wd} {H : Hp} {h : Hap} (ok : Ok K w H h) {p : Addr} {o : HO} {c : Cel} (hp : H p = some o) (f0 : w.F p = none) (r0 : p ∉ w.ρ) (hc : CRel K w o c) : Ok K ⟨w.F, w.ρ ++ [p]⟩ H (h ++ [c]) := by
  have rm : ∀ (i : Nat) (a : Addr), w.ρ[i]? = some a → (w.ρ ++ [p])[i]? = some a := fun i a e => by
    rw [List.getElem?_append_left (List.getElem?_eq_some_iff.mp e).1]
    exact e
  refine ⟨ok.sub, by simp [ok.len], fun j a c' e1 e2 => ?_, ?_, ok.tab⟩
  · by_cases q : j < w.ρ.length
    · have e1' : (w.ρ ++ [p])[j]? = some a := e1
      rw [List.getElem?_append_left q] at e1'
      rw [List.getElem?_append_left (by rw [← ok.len]; exact q)] at e2
      exact (ok.cel j a c' e1' e2).up (w' := ⟨w.F, w.ρ ++ [p]⟩) (fun _ _ x => x) rm (fun z => z) rfl
    · have e1' : (w.ρ ++ [p])[j]? = some a := e1
      rw [List.getElem?_append_right (by omega)] at e1'
      rw [List.getElem?_append_right (by rw [← ok.len]; omega)] at e2
      have z : j - w.ρ.length = 0 := by
        have := (List.getElem?_eq_some_iff.mp e1').1
        simp at this
        omega
      rw [z] at e1'
      have z2 : j - h.length = 0 := by rw [← ok.len]; exact z
      rw [z2] at e2
      simp at e1' e2
      subst e1' e2
      exact .of f0 hp (CRel.mono' (w := w) (w' := ⟨w.F, w.ρ ++ [p]⟩) (fun _ _ x => x) rm hc)
  · show (w.ρ ++ [p]).Nodup
    rw [List.nodup_append]
    refine ⟨ok.nd, by simp, fun a m b m2 => ?_⟩
    rw [List.mem_singleton] at m2
    rw [m2]
    exact fun e => r0 (by rw [← e]; exact m)
theorem t_dcomp [Tbl] {K : PySem.W.Frag} {W : WX} {wi : TI} {s : MI} {g : TG} {mg : MG} {us vs : List Nat} {tt : TT} {tk te : TE} {c : MT} {k e : ME} (hi : ∀ σ H Q, tI K gm W s σ H Q → wi σ H Q) (hg : TgS K g mg us) (hu : ∀ i ∈ us, i ∈ vs) (ht : ∀ σ H Q, tT K gm W0 c σ H Q → tt σ H Q)
    (hk : ∀ σ H Q, tE K gm W0 k σ H Q → tk σ H Q) (he : ∀ σ H Q, tE K gm W0 e σ H Q → te σ H Q) :
    ∀ σ H Q, tE K gm W (mDComp s vs mg c k e) σ H Q → tDc wi g tt tk te vs σ H Q := fun σ H Q ⟨w, env, h, ok, er, p⟩ => by
  refine hi _ _ _ ⟨w, env, h, ok, er, Post.bind p fun J s w1 H1 h1 s1 ok1 vr p1 => fun Da hD => ?_⟩
  obtain ⟨xs, gd⟩ := s
  obtain ⟨V, v0, wk⟩ := vr
  have er1 := er.mono s1
  obtain ⟨f0, r0⟩ := ok1.fresh hD
  generalize hr : dcL gd vs mg c k e env xs h1 [] = r at p1
  refine ⟨fun i m H => m = xs.length - i ∧ i ≤ xs.length ∧ ∃ w h acc vacc, Ok K w H h ∧ Step w1 H1 w H ∧ V w ∧ H Da = some (.dK vacc) ∧ w.F Da = none ∧ Da ∉ w.ρ ∧ KVR K w vacc acc ∧ dcL gd vs mg c k e env (xs.drop i) h acc = r,
    ⟨xs.length, by simp, Nat.zero_le _, w1, h1, [], [], ok1.put (fun o e => by rw [hD] at e; cases e) f0 r0, (Step.refl w1 H1).put hD, v0, upd_same, f0, r0, .nil, by simpa using hr⟩, ?_⟩
  rintro i m H2 ⟨rfl, hi, w2, h2, acc, vacc, ok2, s2, v2, d2, f2, r2, a2, hr2⟩
  have ns : r ≠ .stuck := fun z => by rw [z] at p1; exact p1
  by_cases hl : i < xs.length
  · rw [List.drop_eq_getElem_cons hl] at hr2
    unfold dcL at hr2
    by_cases g0 : gd h2
    · rw [if_pos g0] at hr2
      refine .inr ⟨wk.goes w2 H2 h2 i ok2 v2 g0 hl, fun H => i + 1 ≤ xs.length ∧ ∃ w h acc vacc, Ok K w H h ∧ Step w1 H1 w H ∧ V w ∧ H Da = some (.dK vacc) ∧ w.F Da = none ∧ Da ∉ w.ρ ∧ KVR K w vacc acc ∧ dcL gd vs mg c k e env (xs.drop (i + 1)) h acc = r,
        fun H' z => ⟨xs.length - (i + 1), by omega, rfl, z⟩, fun y H' z => ?_⟩
      obtain ⟨w2, st2, ok2, el, e1, ry⟩ := wk.yields w2 H2 h2 i y H' ok2 v2 g0 hl z
      obtain ⟨d2, f2, r2⟩ := st2.own d2 f2 r2 fun _ z => nomatch z
      have v2 := wk.up _ _ _ _ st2 v2
      have a2 := a2.mono st2
      have s2 := s2.trans st2
      have e2 : xs[i] = el := by
        rw [List.getElem?_eq_getElem hl] at e1
        exact Option.some.inj e1
      rw [e2] at hr2
      cases q : mg el (wipeE env vs) h2 with
      | none => rw [q] at hr2; exact absurd hr2.symm ns
      | some e3 =>
        rw [q] at hr2
        have hr3 : ((c e3 h2).bindN fun t h1 => if t = true then (k e3 h1).bindN fun kd h2 => (e e3 h2).bindN fun y h3 => match keyD kd with
            | some kk => if acc.length < sizeLine then dcL gd vs mg c k e env (xs.drop (i + 1)) h3 (putD acc kk y) else .stuck
            | none => .stuck
          else dcL gd vs mg c k e env (xs.drop (i + 1)) h1 acc) = r := hr2
        refine hg w2 _ h2 y el (wipe σ vs) (wipeE env vs) e3 _ ok2 ry (wipeE_env (er1.mono s2) vs) q fun σ2 er2 wp => ⟨?_, ht _ _ _ ⟨w2, e3, h2, ok2, er2, Post.bindN (f := fun t h1 => if t = true then (k e3 h1).bindN fun kd h2 => (e e3 h2).bindN fun y h3 => match keyD kd with
            | some kk => if acc.length < sizeLine then dcL gd vs mg c k e env (xs.drop (i + 1)) h3 (putD acc kk y) else .stuck
            | none => .stuck
          else dcL gd vs mg c k e env (xs.drop (i + 1)) h1 acc) (δ := D) (by rw [hr3]; exact ns) fun b t w3 H3 h3 ec s3 ok3 vb => ?_⟩⟩
        · rw [wp vs hu]
          clear wp er2
          have idem : ∀ (us : List Nat) (τ : L2.St), (∀ i ∈ us, i ∈ vs) → wipe (wipe τ us) vs = wipe τ vs := by
            intro us
            induction us with
            | nil => intro τ _; rfl
            | cons u us ih =>
              intro τ hm
              show wipe ((wipe τ us).set u none) vs = _
              rw [wipe_set (hm u List.mem_cons_self), ih τ fun i m => hm i (List.mem_cons_of_mem _ m)]
          exact idem vs σ fun _ m => m
        · cases vb
          have hr4 := hr3
          rw [ec] at hr4
          have keepD : ∀ {w' : Wd} {H' : Hp} {wa : Wd} {Ha : Hp} {va : List (Key × L2.V)}, Step wa Ha w' H' → Ha Da = some (.dK va) → wa.F Da = none → Da ∉ wa.ρ → H' Da = some (.dK va) ∧ w'.F Da = none ∧ Da ∉ w'.ρ := by
            intro w' H' wa Ha va st da fa ra
            refine ⟨st.keep _ _ ra (fun _ z => nomatch z) da, ?_, fun m => ?_⟩
            · cases z : w'.F Da with
              | none => rfl
              | some o =>
                rcases st.nf Da o z with z2 | z2
                · rw [fa] at z2; cases z2
                · rw [da] at z2; cases z2
            · rcases st.new Da m with z2 | z2
              · exact ra z2
              · rw [da] at z2; cases z2
          obtain ⟨d3, f3, r3⟩ := keepD s3 d2 f2 r2
          cases b with
          | false => exact ⟨hl, w3, h3, acc, vacc, ok3, s2.trans s3, wk.up _ _ _ _ s3 v2, d3, f3, r3, a2.mono s3, hr4⟩
          | true =>
            have hr5 : ((k e3 h3).bindN fun kd h2 => (e e3 h2).bindN fun y h3 => match keyD kd with
              | some kk => if acc.length < sizeLine then dcL gd vs mg c k e env (xs.drop (i + 1)) h3 (putD acc kk y) else .stuck
              | none => .stuck) = r := hr4
            rw [if_pos rfl]
            refine hk _ _ _ ⟨w3, e3, h3, ok3, er2.mono s3, Post.bindN (f := fun kd h2 => (e e3 h2).bindN fun y h3 => match keyD kd with
              | some kk => if acc.length < sizeLine then dcL gd vs mg c k e env (xs.drop (i + 1)) h3 (putD acc kk y) else .stuck
              | none => .stuck) (δ := D) (by rw [hr5]; exact ns) fun z kd w4 H4 h4 ee s4 ok4 rz => ?_⟩
            rw [ee] at hr5
            have hr6 : ((e e3 h4).bindN fun y h3 => match keyD kd with
              | some kk => if acc.length < sizeLine then dcL gd vs mg c k e env (xs.drop (i + 1)) h3 (putD acc kk y) else .stuck
              | none => .stuck) = r := hr5
            obtain ⟨d4, f4, r4⟩ := keepD s4 d3 f3 r3
            refine he _ _ _ ⟨w4, e3, h4, ok4, (er2.mono s3).mono s4, Post.bindN (f := fun y h3 => match keyD kd with
              | some kk => if acc.length < sizeLine then dcL gd vs mg c k e env (xs.drop (i + 1)) h3 (putD acc kk y) else .stuck
              | none => .stuck) (δ := D) (by rw [hr6]; exact ns) fun y dy w5 H5 h5 ee2 s5 ok5 ry2 => ?_⟩
            rw [ee2] at hr6
            have hr7 : (match keyD kd with
              | some kk => if acc.length < sizeLine then dcL gd vs mg c k e env (xs.drop (i + 1)) h5 (putD acc kk dy) else .stuck
              | none => .stuck) = r := hr6
            obtain ⟨d5, f5, r5⟩ := keepD s5 d4 f4 r4
            cases ek : keyD kd with
            | none => rw [ek] at hr7; exact absurd hr7.symm ns
            | some kk =>
              rw [ek] at hr7
              have hr8 : (if acc.length < sizeLine then dcL gd vs mg c k e env (xs.drop (i + 1)) h5 (putD acc kk dy) else .stuck) = r := hr7
              by_cases hz : acc.length < sizeLine
              · rw [if_pos hz] at hr8
                have ez := keyD_ok rz ek
                exact ⟨vacc, kk, ez, d5, by rw [a2.len]; exact hz, hl, w5, h5, putD acc kk dy, putK vacc kk y, ok5.put (fun o e => by rw [d5] at e; cases e; exact fun _ z => nomatch z) f5 r5, (((s2.trans s3).trans s4).trans s5).put hD, wk.up _ _ _ _ s5 (wk.up _ _ _ _ s4 (wk.up _ _ _ _ s3 v2)), upd_same, f5, r5, KVR.put ry2 kk (((a2.mono s3).mono s4).mono s5), hr8⟩
              · rw [if_neg hz] at hr8
                exact absurd hr8.symm ns
    · rw [if_neg g0] at hr2
      exact absurd hr2.symm ns
  · have ei : i = xs.length := by omega
    subst ei
    rw [List.drop_length] at hr2
    unfold dcL at hr2
    by_cases g0 : gd h2
    · rw [if_pos g0] at hr2
      refine .inl ⟨wk.stops w2 H2 h2 ok2 v2 g0, ?_⟩
      rw [← hr2] at p1
      have q2 := ok2.adoptC (c := .dct acc) d2 f2 r2 ⟨a2.fst, a2.snd⟩
      refine p1 (.ref Da) ⟨w2.F, w2.ρ ++ [Da]⟩ H2 ⟨s2.f, ?_, s2.keep, s2.dom, fun a m => ?_, s2.nf⟩ q2 (.ref ?_)
      · obtain ⟨t, e⟩ := s2.r
        exact ⟨t ++ [Da], by rw [e, List.append_assoc]⟩
      · rcases List.mem_append.mp m with m | m
        · exact s2.new a m
        · rw [List.mem_singleton] at m
          rw [m]
          exact .inr hD
      · show (w2.ρ ++ [Da])[h2.length]? = some Da
        rw [← ok2.len, List.getElem?_append_right (Nat.le_refl _), Nat.sub_self]
        rfl
    · rw [if_neg g0] at hr2
      exact absurd hr2.symm ns
section
variable {X : Cx} {W : WX} {kx vx tg iter : Expr} {ifs : List Expr} {scope : Scope} {own : List (Str × Nat)} {pos : Pos} {s : MI} {g : TG} {mg : MG} {us : List Nat} {c : MT} {k e : ME}
theorem e_dcomp [Tbl] (hc : X.calm = true) (hN : X.N.Nodup) (ok : BlkOk X.N X.env.scope scope own) (hu : ∀ i ∈ us, i ∈ own.map (·.2)) (hb : TgS X.K g mg us) (hi : PI X tg iter (tI X.K X.mg W s))
    (hg : ∀ (s : Shared) (H : Hp) (C : Addr) (cl : List (Str × Addr)) (fp : List Addr), PG (X.blk s H scope (compEnvC scope cl C X.env) fp) tg g) (ht : ∀ (s : Shared) (H : Hp) (C : Addr) (cl : List (Str × Addr)) (fp : List Addr), PTs (X.blk s H scope (compEnvC scope cl C X.env) fp) ifs (tT X.K X.mg W0 c))
    (hk : ∀ (s : Shared) (H : Hp) (C : Addr) (cl : List (Str × Addr)) (fp : List Addr), PE (X.blk s H scope (compEnvC scope cl C X.env) fp) kx (tE X.K X.mg W0 k))
    (he : ∀ (s : Shared) (H : Hp) (C : Addr) (cl : List (Str × Addr)) (fp : List Addr), PE (X.blk s H scope (compEnvC scope cl C X.env) fp) vx (tE X.K X.mg W0 e)) (hs : ∀ x, foldedSetIterable iter X.env x = pure x := by intro _; rfl) :
    PE X (.DictComp kx vx [⟨tg, iter, ifs, 0⟩] scope pos) (tE X.K X.mg W (mDComp s (own.map (·.2)) mg c k e)) := PE.imp (pe_dc hc hN hi ok hg ht hk he hs) (t_dcomp (fun _ _ _ h => h) hb hu (fun _ _ _ h => h) (fun _ _ _ h => h) fun _ _ _ h => h)
end
end
end Vi

set_option Elab.async false
set_option linter.all false
set_option autoImplicit false
set_option maxRecDepth 100000
set_option maxHeartbeats 2000000
namespace Vi
open PySem PySem.Spec PySem.Calls PyProof.Rows L2 L2.DX
open scoped Classical
noncomputable section
variable {gm : Str → Option Value}
/-! ### sorted(d): a dict's keys -/
theorem each_keys : ∀ {ks : List Key} {us : List Value}, Vals (ks.map kV) us → PySem.W.EachIs (fun (u : Value) (k : Key) => RelV (kV k) u) us ks
  | [], _, h => by cases h; exact .nil
  | k :: ks, _, h => by cases h with | cons r t => exact .cons r (each_keys t)
theorem keys_of_each : ∀ {us : List Value} {ks : List Key}, PySem.W.EachIs (fun (u : Value) (k : Key) => RelV (kV k) u) us ks → Vals (ks.map kV) us
  | _, _, .nil => .nil
  | _, _, .cons a b => .cons a (keys_of_each b)
def rSortKs : List V → Hp → VK → Prop := fun vs H Q => ∃ (a : Addr) (kvs : List (Key × V)), vs = [.ref a] ∧ H a = some (.dK kvs) ∧ PySem.W.AllAlike ((kvs.map Prod.fst).map keyP) ∧ PySem.W.Sortable ((kvs.map Prod.fst).map keyP) ∧
  ∀ p, H p = none → Q (.ref p) (upd H p (.lst (((kvs.map Prod.fst).mergeSort (PySem.W.dataLe false keyP)).map kV)))
section
variable {X : Cx}
theorem cr_sortKs (hc : X.calm = true) (hu : X.A.units + 64 < cLine) : CallR X (.builtin "sorted") rSortKs := by
  intro pins s σ H xs us Q I r h
  obtain ⟨a, kvs, rfl, ha, hal, hab, q⟩ := h
  obtain rfl := Vals.ref1 r
  obtain ⟨hz, hs0, vs, kv, hdo⟩ := I.hok a _ ha
  obtain ⟨ep, hat⟩ := hdo.dictAt
  have lk : kvs.length = vs.length := Paired.length kv
  refine call_function_entry PyProof.Rows.kind_sorted PyProof.Rows.plain_sorted PyProof.Rows.entry_sorted (PyProof.Rows.args_sorted1 _) ?_
  unfold Builtin.«sorted»
  refine wpAny_bind (m := checkCount "sorted" 1 1 _) (wpAny_pure ?_)
  refine wpAny_bind (kdl_collect (B := X.A.in1) (PySem.W.kdl_dict (knd := mixKind X.prog X.w) (kvs := vs) (ep := ep) hs0) (I.ok.hd hc) hat (by rw [← lk]; exact hz) fun h' tk acc hk hacc => ?_)
  have el : acc.toList.length = acc.size := by simp
  have hla : acc.toList.length = kvs.length := by rw [el, hacc.1, lk]
  have hv : Vals ((kvs.map Prod.fst).map kV) acc.toList := by
    refine vals_of_at (by rw [List.length_map, List.length_map, hla]) fun j x w h1 h2 => ?_
    obtain ⟨k, y, hky, hi⟩ := hacc.2 j w (by rw [← Array.getElem?_toList]; exact h2)
    have e1 : (kvs.map (·.1))[j]? = some k := by
      rw [KV.keys kv, List.getElem?_map, hky] <;> rfl
    have e2 : ((kvs.map Prod.fst).map kV)[j]? = some (kV k) := by
      rw [List.getElem?_map, show (kvs.map Prod.fst)[j]? = some k from e1] <;> rfl
    rw [e2] at h1
    cases h1
    exact keyIs_rel hi
  refine wpAny_bind (wpAny_newList ?_ (by rw [hla]; exact hz))
  have I1 : Inv X pins σ H { s with heap := h', toks := tk } := I.kept hk
  generalize hus : acc.toList = us at *
  generalize hks : kvs.map Prod.fst = ks at *
  have ek := each_keys hv
  have lks : ks.length = us.length := by rw [← hks, List.length_map, hla]
  have hob : (h'.push { cls := .type "list", data := .seq us.toArray }).get? h'.objs.size = some (seqObj "list" us.toArray 0) := Heap.get?_push_size _ rfl
  have er : PySem.W.EachIs (fun v (b : Key) => ∃ ad, Reads (PySem.W.sortingHeap (h'.push { cls := .type "list", data := .seq us.toArray }) h'.objs.size us) v (keyP b) ad) us ks := by
    have go : ∀ {us' : List Value} {bs : List Key}, PySem.W.EachIs (fun (u : Value) (k : Key) => RelV (kV k) u) us' bs →
        PySem.W.EachIs (fun v (b : Key) => ∃ ad, Reads (PySem.W.sortingHeap (h'.push { cls := .type "list", data := .seq us.toArray }) h'.objs.size us) v (keyP b) ad) us' bs := by
      intro us' bs z
      induction z with
      | nil => exact .nil
      | @cons u b us' bs e t ih =>
        refine .cons ?_ ih
        obtain ⟨ad, rd⟩ := Dp.reads I1 _ _ u (dp_key (K := X.K) (H := H) b) e
        exact ⟨ad, PyProof.Rows.Reads.keeps (fun b o e => PySem.W.sortingHeap_old (Nat.ne_of_lt (Heap.lt_size e)) (Heap.get?_push_of_some _ e)) rd⟩
    exact go ek
  have mp : ks.map (fun b => keyP b) = ks.map keyP := rfl
  refine wpAny_bind (wpAny_holding (wpAny_mono (Q := fun v s' => EP X pins σ Q (.ref h'.objs.size) s') (wpAny_call_entry PyProof.Rows.slot_list_sort ⟨_, hob, rfl⟩ PyProof.Rows.entry_list_sort
    (PySem.W.list_sort_vals (κ := PySem.W.dataKind (PySem.W.sortingHeap (h'.push { cls := .type "list", data := .seq us.toArray }) h'.objs.size us) (ks.map keyP)) hob
      (PySem.W.SortsAt.data (s := { s with heap := PySem.W.sortingHeap (h'.push { cls := .type "list", data := .seq us.toArray }) h'.objs.size us, toks := tk }) (PySem.W.each_map keyP er) hal hab ?_) (by rw [← lks, ← hks, List.length_map]; exact hz) ⟨.none, rfl, ?_⟩) (PyProof.Rows.args_list_sort _)) (fun _ s' x => ?_) fun _ _ x => x))
  · intro d hd
    obtain ⟨k, _, rfl⟩ := List.mem_map.mp hd
    have : (keyP k).depth = 0 := by cases k <;> rfl
    show X.A.units + 1 + 1 + _ < cLine
    omega
  · have eo := PySem.W.sortVals_data false ek er hal
    have lo : (PySem.W.sortVals (PySem.W.dataKind (PySem.W.sortingHeap (h'.push { cls := .type "list", data := .seq us.toArray }) h'.objs.size us) (ks.map keyP)) false us us).length ≤ sizeLine := by
      rw [PySem.W.sortVals_length false rfl, ← lks, ← hks, List.length_map]; exact hz
    have vo := keys_of_each eo
    obtain ⟨n, hn⟩ := PyProof.Rows.sortedHeap_at (out := (PySem.W.sortVals (PySem.W.dataKind (PySem.W.sortingHeap (h'.push { cls := .type "list", data := .seq us.toArray }) h'.objs.size us) (ks.map keyP)) false us us).toArray) hob
    have fB : H h'.objs.size = none := I1.hok.fresh (Nat.le_refl _)
    refine ⟨.ref h'.objs.size, upd H h'.objs.size (.lst ((ks.mergeSort (PySem.W.dataLe false keyP)).map kV)), I1.laid (t' := tk) (fun b o e => ?_) (Nat.le_refl _) ?_, rfl, q _ fB⟩
    · exact (PyProof.Rows.sortedHeap_old (Nat.ne_of_lt (Heap.lt_size e)) (Heap.lt_size (Heap.get?_push_of_some _ e))).trans (Heap.get?_push_of_some _ e)
    · exact ⟨by rw [List.length_map, List.length_mergeSort, ← hks, List.length_map]; exact hz, _, n, vo, hn⟩
  · exact wpAny_pure ⟨_, rfl, x⟩
end
/-- at the data -/
def keySrt (kvs : List (Key × D)) : Prop := PySem.W.AllAlike ((kvs.map Prod.fst).map keyP) ∧ PySem.W.Sortable ((kvs.map Prod.fst).map keyP)
def dSortKs : List D → Hap → Option D := fun ds h => match ds with
  | [d] => (getD d h).bind fun kvs => if keySrt kvs then some (.lst (((kvs.map Prod.fst).mergeSort (PySem.W.dataLe false keyP)).map keyV)) else none
  | _ => none
theorem s_sortKs [Tbl] {K : PySem.W.Frag} : CallS K rSortKs dSortKs := by
  intro w H h xs ds d Q ok vr e q
  unfold dSortKs at e
  split at e
  · obtain ⟨x, rfl, r⟩ := vrs1 vr
    obtain ⟨kvs, e1, e2⟩ := Option.bind_eq_some_iff.mp e
    split at e2
    · next hS =>
      cases e2
      obtain ⟨a, i, vs, rfl, rfl, hr, hi, ha, r2⟩ := getD_ok ok r e1
      have ef := r2.fst
      refine ⟨a, vs, rfl, ha, by rw [ef]; exact hS.1, by rw [ef]; exact hS.2, fun l hl => q _ _ _ (ok.alloc hl).2 (ok.alloc hl).1 ?_⟩
      rw [ef]
      exact vr_lst ok hl (vrs_map fun k _ => vr_keyV k)
    · cases e2
  · cases e
end
end Vi

set_option Elab.async false
set_option linter.all false
set_option autoImplicit false
set_option maxRecDepth 100000
set_option maxHeartbeats 2000000
namespace Vi
open PySem PySem.Spec PySem.Calls PyProof.Rows L2
open scoped Classical
noncomputable section
/-! ### {**a, **b}: the merge -/
section
variable {prog : Program} {w : World} {κ : Type} [DecidableEq κ] {kk : KeyKind prog w κ} {A : Around} {E : Value → Shared → Prop} {s : Shared}
end
end
end Vi

set_option Elab.async false
set_option linter.all false
set_option autoImplicit false
set_option maxRecDepth 100000
set_option maxHeartbeats 2000000
namespace Vi
open PySem PySem.Spec PySem.Calls PyProof.Rows L2
open scoped Classical
noncomputable section
variable {gm : Str → Option Value}
section
variable {prog : Program} {w : World} {K : Type} [DecidableEq K] {knd : KeyKind prog w K} {A : Around} {E : Value → Shared → Prop} {s : Shared}
end
section
variable {X : Cx}
end
section
variable {X : Cx} {W : WX}
end
end
end Vi

set_option Elab.async false
set_option linter.all false
set_option autoImplicit false
set_option maxRecDepth 100000
set_option maxHeartbeats 2000000
namespace Vi
open PySem PySem.Spec PyProof.Rows L2
open scoped Classical
noncomputable section
/-! ### what a mirror's result satisfies -/
def Sat {α : Type} (r : Rs α) (P : α → Hap → Prop) : Prop := match r with
  | .ok a h => P a h
  | _ => False
structure Ps where
  n : Env → Hap → Prop
  r : D → Hap → Prop
  b : Env → Hap → Prop := fun _ _ => False
  c : Env → Hap → Prop := fun _ _ => False
def SatS (r : RS) (P : Ps) : Prop := match r with
  | .nx e h => P.n e h
  | .rt d h => P.r d h
  | .bk e h => P.b e h
  | .ct e h => P.c e h
  | _ => False
section
variable {α β : Type} {P : α → Hap → Prop} {Q : Ps} {h : Hap} {env : Env}
theorem Sat.mono {r : Rs α} {P' : α → Hap → Prop} (s : Sat r P) (i : ∀ a h, P a h → P' a h) : Sat r P' := by
  cases r with
  | ok a h => exact i a h s
  | err => exact s
  | stuck => exact s
theorem Sat.ex {r : Rs α} (s : Sat r P) : ∃ a h, r = .ok a h ∧ P a h := by
  cases r with
  | ok a h => exact ⟨a, h, rfl, s⟩
  | err => exact s.elim
  | stuck => exact s.elim
theorem SatS.mono {r : RS} {Q' : Ps} (s : SatS r Q) (i : ∀ e h, Q.n e h → Q'.n e h) (j : ∀ d h, Q.r d h → Q'.r d h) (k : ∀ e h, Q.b e h → Q'.b e h) (l : ∀ e h, Q.c e h → Q'.c e h) : SatS r Q' := by
  cases r with
  | nx e h => exact i e h s
  | rt d h => exact j d h s
  | bk d h => exact k d h s
  | ct d h => exact l d h s
  | er => exact s.elim
  | stuck => exact s.elim
theorem Sat.bind {r : Rs β} {f : β → Hap → Rs α} (s : Sat r fun a h => Sat (f a h) P) : Sat (r.bind f) P := by
  cases r with
  | ok a h => exact s
  | err => exact s.elim
  | stuck => exact s.elim
theorem Sat.bindN {r : Rs β} {f : β → Hap → Rs α} (s : Sat r fun a h => Sat (f a h) P) : Sat (r.bindN f) P := by
  cases r with
  | ok a h => exact s
  | err => exact s.elim
  | stuck => exact s.elim
theorem SatS.of {r : Rs β} {f : β → Hap → RS} (s : Sat r fun a h => SatS (f a h) Q) : SatS (RsS r env f) Q := by
  cases r with
  | ok a h => exact s
  | err => exact s.elim
  | stuck => exact s.elim
/-! ### one step each -/
theorem x_some {o : Option α} {d : α} (e : o = some d) (p : P d h) : Sat (ofO o h) P := by
  rw [e]
  exact p
theorem x_fun {n : Nat} {b : MS} {ds : List D} {P : D → Hap → Prop} (s : SatS (b (env0 n ds) h) ⟨fun _ h => P .non h, P, fun _ _ => False, fun _ _ => False⟩) : Sat (run n b ds h) P := by
  unfold run
  revert s
  cases b (env0 n ds) h with
  | nx e h => exact fun s => s
  | rt e h => exact fun s => s
  | bk e h => exact fun s => s.elim
  | ct e h => exact fun s => s.elim
  | er => exact fun s => s.elim
  | stuck => exact fun s => s.elim
theorem x_var {i : Nat} {d : D} {P : D → Hap → Prop} (e : env[i]? = some (some d)) (p : P d h) : Sat (mVar i env h) P := by
  unfold mVar
  rw [e]
  exact p
theorem x_c {d : D} {P : D → Hap → Prop} (p : P d h) : Sat (mC d env h) P := p
theorem x_bin {g : D → D → Hap → Option D} {a b : ME} {P : D → Hap → Prop} (s : Sat (a env h) fun x h1 => Sat (b env h1) fun y h2 => Sat (ofO (g x y h2) h2) P) : Sat (mBin g a b env h) P := Sat.bind (s.mono fun _ _ s => Sat.bind s)
theorem x_un {g : D → Hap → Option D} {a : ME} {P : D → Hap → Prop} (s : Sat (a env h) fun x h1 => Sat (ofO (g x h1) h1) P) : Sat (mUn g a env h) P := Sat.bind s
theorem x_tst {a : ME} {P : Bool → Hap → Prop} (s : Sat (a env h) fun x h1 => Sat (ofO (oB x) h1) P) : Sat (mTst a env h) P := Sat.bind s
theorem x_oB {b : Bool} {P : Bool → Hap → Prop} (p : P b h) : Sat (ofO (oB (.bl b)) h) P := p
theorem x_notT {a : MT} {P : Bool → Hap → Prop} (s : Sat (a env h) fun x h1 => P (!x) h1) : Sat (mNotT a env h) P := Sat.bind s
theorem x_andT {a b : MT} {P : Bool → Hap → Prop} (s : Sat (a env h) fun x h1 => (x = true → Sat (b env h1) P) ∧ (x = false → P false h1)) : Sat (mAndT a b env h) P := Sat.bind (s.mono fun x h1 s => by
  cases x with
  | true => exact s.1 rfl
  | false => exact s.2 rfl)
theorem x_orT {a b : MT} {P : Bool → Hap → Prop} (s : Sat (a env h) fun x h1 => (x = true → P true h1) ∧ (x = false → Sat (b env h1) P)) : Sat (mOrT a b env h) P := Sat.bind (s.mono fun x h1 s => by
  cases x with
  | true => exact s.1 rfl
  | false => exact s.2 rfl)
theorem x_and {a b : ME} {P : D → Hap → Prop} (s : Sat (a env h) fun x h1 => ∃ t, x = .bl t ∧ (t = true → Sat (b env h1) P) ∧ (t = false → P (.bl false) h1)) : Sat (mAnd a b env h) P := Sat.bind (s.mono fun x h1 ⟨t, e, s⟩ => by
  subst e
  cases t with
  | true => exact s.1 rfl
  | false => exact s.2 rfl)
theorem x_not {a : ME} {P : D → Hap → Prop} (s : Sat (a env h) fun x h1 => ∃ t, x = .bl t ∧ P (.bl (!t)) h1) : Sat (mNot a env h) P := Sat.bind (s.mono fun x h1 ⟨t, e, s⟩ => by
  subst e
  exact s)
theorem x_nil {P : List D → Hap → Prop} (p : P [] h) : Sat (mNil env h) P := p
theorem x_cons {a : ME} {r : MA} {P : List D → Hap → Prop} (s : Sat (a env h) fun x h1 => Sat (r env h1) fun xs h2 => P (x :: xs) h2) : Sat (mCons a r env h) P := Sat.bind (s.mono fun _ _ s => Sat.bind s)
theorem x_tup {a : MA} {P : D → Hap → Prop} (s : Sat (a env h) fun xs h1 => xs.length ≤ sizeLine ∧ P (.tup xs) h1) : Sat (mTup a env h) P := Sat.bind (s.mono fun _ _ s => by
  rw [if_pos s.1]
  exact s.2)
theorem x_lst {a : MA} {P : D → Hap → Prop} (s : Sat (a env h) fun xs h1 => xs.length ≤ sizeLine ∧ P (.lst xs) h1) : Sat (mLst a env h) P := Sat.bind (s.mono fun _ _ s => by
  rw [if_pos s.1]
  exact s.2)
theorem x_cel {a : MA} {P : D → Hap → Prop} (s : Sat (a env h) fun xs h1 => xs.length ≤ sizeLine ∧ P (.ref h1.length) (h1 ++ [.lst xs])) : Sat (mCel a env h) P := Sat.bind (s.mono fun _ _ s => by
  rw [if_pos s.1]
  exact s.2)
theorem x_cb {g : List D → Hap → Option D} {a : MA} {P : D → Hap → Prop} (s : Sat (a env h) fun xs h1 => Sat (ofO (g xs h1) h1) P) : Sat (mCB g a env h) P := Sat.bind s
theorem x_met {T : String} {g : D → List D → Hap → Rs D} {o : ME} {a : MA} {P : D → Hap → Prop} (s : Sat (o env h) fun x h1 => isT T x h1 = true ∧ Sat (a env h1) fun xs h2 => Sat (g x xs h2) P) : Sat (mMet T g o a env h) P := Sat.bind (s.mono fun _ _ s => by
  rw [if_pos s.1]
  exact Sat.bind s.2)
theorem x_gP {f : D → List D → Hap → Option D} {a : D} {ds : List D} {d : D} {P : D → Hap → Prop} (e : f a ds h = some d) (p : P d h) : Sat (gP f a ds h) P := x_some e p
theorem x_call {m : MF} {a : MA} {P : D → Hap → Prop} (s : Sat (a env h) fun xs h1 => Sat (m xs h1) P) : Sat (mCall m a env h) P := Sat.bind s
theorem x_noP {P : Option Int → Hap → Prop} (p : P none h) : Sat (mNoP env h) P := p
theorem x_part {a : ME} {P : Option Int → Hap → Prop} (s : Sat (a env h) fun x h1 => Sat (ofO (oI x) h1) P) : Sat (mPart a env h) P := Sat.bind s
theorem x_oI {i : Int} {P : Option Int → Hap → Prop} (p : P (some i) h) : Sat (ofO (oI (.int i)) h) P := p
theorem x_sl {a : ME} {lo hi : MO} {P : D → Hap → Prop} (s : Sat (a env h) fun x h1 => Sat (lo env h1) fun l h2 => Sat (hi env h2) fun u h3 => Sat (ofO (dSl x l u h3) h3) P) : Sat (mSl a lo hi env h) P := Sat.bind (s.mono fun _ _ s => Sat.bind (s.mono fun _ _ s => Sat.bind s))
theorem y_var {i : Nat} {P : D → Hap → Prop} (e : ∃ d, env[i]? = some (some d) ∧ P d h) : Sat (mVar i env h) P := let ⟨_, e, p⟩ := e; x_var e p
theorem y_some {o : Option α} (e : ∃ d, o = some d ∧ P d h) : Sat (ofO o h) P := let ⟨_, e, p⟩ := e; x_some e p
/-! statements -/
theorem s_seq {a b : MS} (s : SatS (a env h) ⟨fun e h1 => SatS (b e h1) Q, Q.r, Q.b, Q.c⟩) : SatS (mSeq a b env h) Q := by
  unfold mSeq
  revert s
  cases a env h with
  | nx e h => exact fun s => s
  | rt e h => exact fun s => s
  | bk e h => exact fun s => s
  | ct e h => exact fun s => s
  | er => exact fun s => s.elim
  | stuck => exact fun s => s.elim
theorem s_cut {a b : MS} (I : Env → Hap → Prop) (h1 : SatS (a env h) ⟨I, Q.r, Q.b, Q.c⟩) (h2 : ∀ e h, I e h → SatS (b e h) Q) : SatS (mSeq a b env h) Q := s_seq (h1.mono h2 (fun _ _ z => z) (fun _ _ z => z) fun _ _ z => z)
theorem s_seqA {a : ME} {g : MG} {b : MS} (s : SatS (mAsg a g env h) ⟨fun e h1 => SatS (b e h1) Q, Q.r, Q.b, Q.c⟩) : SatS (mSeq (mAsg a g) b env h) Q := s_seq s
theorem s_seqU {a o i : ME} {b : MS} (s : SatS (mSub a o i env h) ⟨fun e h1 => SatS (b e h1) Q, Q.r, Q.b, Q.c⟩) : SatS (mSeq (mSub a o i) b env h) Q := s_seq s
theorem s_next (p : Q.n env h) : SatS (mNext env h) Q := p
theorem s_exp' {a : ME} (s : Sat (a env h) fun _ h1 => Q.n env h1) : SatS (mExp a env h) Q := SatS.of s
theorem s_ret' {a : ME} (s : Sat (a env h) fun d h1 => Q.r d h1) : SatS (mRet a env h) Q := SatS.of s
theorem s_if' {t : MT} {a b : MS} (s : Sat (t env h) fun x h1 => (x = true → SatS (a env h1) Q) ∧ (x = false → SatS (b env h1) Q)) : SatS (mIfS t a b env h) Q := SatS.of (s.mono fun x h1 s => by
  cases x with
  | true => exact s.1 rfl
  | false => exact s.2 rfl)
theorem s_asg' {a : ME} {i : Nat} (s : Sat (a env h) fun d h1 => Q.n (env.set i (some d)) h1) : SatS (mAsg a (gNm i) env h) Q := SatS.of s
theorem s_asgT {a : ME} {n : Nat} {b : MGs} (s : Sat (a env h) fun d h1 => ∃ e1, gTp n b d env h1 = some e1 ∧ Q.n e1 h1) : SatS (mAsg a (gTp n b) env h) Q := SatS.of (s.mono fun d h1 ⟨e1, q, p⟩ => by
  rw [q]
  exact p)
theorem s_sub' {a o i : ME} (s : Sat (a env h) fun d h1 => Sat (o env h1) fun od h2 => Sat (i env h2) fun id h3 => ∃ h4, sIx od id d h3 = some h4 ∧ Q.n env h4) : SatS (mSub a o i env h) Q := SatS.of (s.mono fun _ _ s => SatS.of (s.mono fun _ _ s => SatS.of (s.mono fun _ _ ⟨h4, q, p⟩ => by
  rw [q]
  exact p)))
/-- a loop by what holds between two turns: pre, the items taken -/
theorem s_forI {s : MI} {g : MG} {b : MS} (I : List D → List D → Env → Hap → Prop) (hs : Sat (s env h) fun s h1 => I [] s.1 env h1 ∧ (∀ pre post e h, s.1 = pre ++ post → I pre post e h → s.2 h) ∧
      (∀ pre x post e h, s.1 = pre ++ x :: post → I pre (x :: post) e h → ∃ e1, g x e h = some e1 ∧ SatS (b e1 h) ⟨fun e h => I (pre ++ [x]) post e h, Q.r, Q.n, fun e h => I (pre ++ [x]) post e h⟩) ∧
      (∀ e h, I s.1 [] e h → Q.n e h)) : SatS (mFor s g b env h) Q := SatS.of (hs.mono fun s h1 ⟨h0, hg, ht, he⟩ => by
  obtain ⟨xs, gd⟩ := s
  have go : ∀ (post pre : List D) (e : Env) (h : Hap), xs = pre ++ post → I pre post e h → SatS (forL gd g b post e h) Q := by
    intro post
    induction post with
    | nil =>
      intro pre e h q i
      unfold forL
      rw [if_pos (hg pre [] e h q i)]
      rw [List.append_nil] at q
      subst q
      exact he e h i
    | cons x post ih =>
      intro pre e h q i
      unfold forL
      rw [if_pos (hg pre _ e h q i)]
      obtain ⟨e1, q1, t⟩ := ht pre x post e h q i
      rw [q1]
      show SatS ((b e1 h).turn (forL gd g b post)) Q
      revert t
      cases b e1 h with
      | nx e2 h2 => exact fun t => ih (pre ++ [x]) e2 h2 (by simpa using q) t
      | ct e2 h2 => exact fun t => ih (pre ++ [x]) e2 h2 (by simpa using q) t
      | bk e2 h2 => exact fun t => t
      | rt d h2 => exact fun t => t
      | er => exact fun t => t.elim
      | stuck => exact fun t => t.elim
  exact go xs [] env h1 rfl h0)
/-- a comprehension likewise: acc, what is made so far -/
theorem x_compI {s : MI} {vs : List Nat} {g : MG} {c : MT} {e : ME} {P : D → Hap → Prop} (I : List D → List D → Hap → List D → Prop) (hs : Sat (s env h) fun s h1 => I [] s.1 h1 [] ∧ (∀ pre post h acc, s.1 = pre ++ post → I pre post h acc → s.2 h) ∧
      (∀ pre x post h acc, s.1 = pre ++ x :: post → I pre (x :: post) h acc → ∃ e1, g x (wipeE env vs) h = some e1 ∧ Sat (c e1 h) fun t h1 => (t = true → acc.length < sizeLine ∧ Sat (e e1 h1) fun y h2 => I (pre ++ [x]) post h2 (acc ++ [y])) ∧ (t = false → I (pre ++ [x]) post h1 acc)) ∧
      (∀ h acc, I s.1 [] h acc → P (.lst acc) h)) : Sat (mComp s vs g c e env h) P := Sat.bind (hs.mono fun s h1 ⟨h0, hg, ht, he⟩ => by
  obtain ⟨xs, gd⟩ := s
  refine Sat.bindN ?_
  have go : ∀ (post pre : List D) (h : Hap) (acc : List D), xs = pre ++ post → I pre post h acc → Sat (compL gd vs g c e env post h acc) fun ys h2 => Sat (.ok (.lst ys) h2) P := by
    intro post
    induction post with
    | nil =>
      intro pre h acc q i
      unfold compL
      rw [if_pos (hg pre [] h acc q i)]
      rw [List.append_nil] at q
      subst q
      exact he h acc i
    | cons x post ih =>
      intro pre h acc q i
      unfold compL
      rw [if_pos (hg pre _ h acc q i)]
      obtain ⟨e1, q1, t⟩ := ht pre x post h acc q i
      rw [q1]
      refine Sat.bindN (t.mono fun t h1 z => ?_)
      cases t with
      | false => exact ih (pre ++ [x]) h1 acc (by simpa using q) (z.2 rfl)
      | true =>
        obtain ⟨hl, z⟩ := z.1 rfl
        refine Sat.bindN (z.mono fun y h2 z => ?_)
        rw [if_pos hl]
        exact ih (pre ++ [x]) h2 (acc ++ [y]) (by simpa using q) z
  exact go xs [] h1 [] rfl h0)
theorem x_yes {P : Bool → Hap → Prop} (p : P true h) : Sat (mYes env h) P := p
theorem x_mI {m : ME} {P : List D × (Hap → Prop) → Hap → Prop} (s : Sat (m env h) fun d h1 => ∃ xs, seqOf d h1 = some xs ∧ P (xs, fun h => seqOf d h = some xs) h1) : Sat (mI m env h) P := Sat.bind (s.mono fun d h1 ⟨xs, q, p⟩ => by
  rw [q]
  exact p)
theorem x_rng {f : List D → Option (List D × (Hap → Prop))} {a : MA} {P : List D × (Hap → Prop) → Hap → Prop} (s : Sat (a env h) fun xs h1 => Sat (ofO (f xs) h1) P) : Sat (mRng f a env h) P := Sat.bind s
theorem x_rng1 {j : Int} {P : List D × (Hap → Prop) → Hap → Prop} (hl : -(2 ^ 62) ≤ j ∧ j < 2 ^ 62) (p : P (rngL 0 j.toNat, fun _ => True) h) : Sat (ofO (rng1 [.int j]) h) P := x_some (if_pos hl) p
/-! values -/
theorem v_mod {i j : Int} {P : D → Hap → Prop} (hj : j ≠ 0) (p : P (.int (i.fmod j)) h) : Sat (ofO (dMod (.int i) (.int j) h) h) P := x_some (if_pos hj) p
theorem v_div {i j : Int} {P : D → Hap → Prop} (hj : CDivN i j) (p : P (.int (i.fdiv j)) h) : Sat (ofO (dDiv (.int i) (.int j) h) h) P := x_some (if_pos hj) p
theorem v_mul {i j : Int} {P : D → Hap → Prop} (hj : CMul i j) (p : P (.int (i * j)) h) : Sat (ofO (dMul (.int i) (.int j) h) h) P := x_some (if_pos hj) p
theorem v_pow {i j : Int} {P : D → Hap → Prop} (hj : CPow i j) (p : P (.int (i ^ j.toNat)) h) : Sat (ofO (dPow (.int i) (.int j) h) h) P := x_some (if_pos hj) p
theorem v_adds {x y : Str} {P : D → Hap → Prop} (hl : x.length + y.length ≤ sizeLine) (p : P (.str (x ++ y)) h) : Sat (ofO (dAdd (.str x) (.str y) h) h) P := x_some (if_pos hl) p
theorem v_ixS {z : Str} {i : Int} {c : Nat} {P : D → Hap → Prop} (hl : z.length ≤ sizeLine) (e : atI z.cps.toList i = some c) (p : P (.str (ch c)) h) : Sat (ofO (dIx (.str z) (.int i) h) h) P := x_some (Eq.trans (if_pos hl) (by rw [e]; rfl)) p
theorem v_slS {z : Str} {l u : Option Int} {P : D → Hap → Prop} (hl : z.length ≤ sizeLine) (p : P (.str (cutS z l u)) h) : Sat (ofO (dSl (.str z) l u h) h) P := x_some (if_pos hl) p
end
theorem strsOf_map : ∀ xs : List Str, strsOf (xs.map D.str) = some xs
  | [] => rfl
  | x :: xs => by simp [strsOf, strsOf_map xs]
theorem v_join {a : Str} {d : D} {ys : List Str} {h : Hap} {P : D → Hap → Prop} (e : getQ d h = some (ys.map .str)) (hl : (ys.map (·.length)).sum + ys.length * a.length ≤ 16777216) (p : P (.str (Txt.join a ys)) h) : Sat (gP dJoin (.str a) [d] h) P := x_some (by
  unfold dJoin
  simp only []
  rw [e]
  simp only [Option.bind_some, strsOf_map]
  rw [if_pos hl]) p
theorem v_lenQ {d : D} {xs : List D} {h : Hap} {P : D → Hap → Prop} (e : getQ d h = some xs) (hd : ∀ z, d ≠ .str z) (p : P (.int xs.length) h) : Sat (ofO (dLen [d] h) h) P := x_some (by
  unfold dLen
  split
  · next z q => injection q with q1; exact absurd q1 (hd z)
  · next d' _ q => injection q with q1; subst q1; rw [e]; rfl
  · next q1 q2 => exact absurd rfl (q2 d)) p
theorem atI_ok {α : Type} {xs : List α} {i : Int} (h0 : 0 ≤ i) (h1 : i < xs.length) : ∃ x, atI xs i = some x ∧ x ∈ xs ∧ xs[i.toNat]? = some x := by
  have hl : i.toNat < xs.length := by omega
  refine ⟨xs[i.toNat], ?_, List.getElem_mem hl, List.getElem?_eq_getElem hl⟩
  unfold atI ixN
  rw [if_pos h0, if_pos h1]
  simp [hl]
theorem sl_le {n : Nat} (h : n ≤ 16777216) : n ≤ sizeLine := by rw [sizeLine_eq]; exact h
end
end Vi

set_option Elab.async false
set_option linter.all false
set_option autoImplicit false
set_option maxRecDepth 100000
set_option maxHeartbeats 2000000
namespace Vi
open PySem PySem.Spec PyProof.Rows L2
open scoped Classical
noncomputable section
/-! ### sorted(xs, key=lambda x: x[0]), the keys texts -/
/-- the lambda's text: one parameter, no other name of its own -/
structure LamOk (x : Str) (params : Arguments) (body : Expr) (scope : Scope) : Prop where
  txt : ∃ j p1 p2 p3, body = .Subscript (.Name x p1) (.Constant (.int 0) j p2) p3
  kind : scope.kind = .function
  co : scope.isCoroutine = false
  gen : scope.isGenerator = false
  cell : ∀ y ∈ scope.names, y.2 ≠ .cell
  free : ∀ y ∈ scope.names, y.2 ≠ .free
  loc : scope.names.lookup x = some .local
  dbg : (x == ("__debug__" : Str)) = false
  bind : ∀ (q : Str) (cl : List (Str × Addr)) (pm cv ctv v : Value), bindArgs (PySem.W.kla_fn "<lambda>" q params body scope cl pm cv ctv) ⟨[v], []⟩ = pure [(x, v)]
section
variable {prog : Program} {wd : World} {A : Around} {s : Shared} {f c' t : Addr} {q x : Str} {params : Arguments} {body : Expr} {scope : Scope} {pm ctv : Value} {cl : List (Str × Addr)}
/-- the lambda at a row -/
theorem lam_at (L : LamOk x params body scope) (hf : s.heap.get? f = some (PySem.W.kla_obj "<lambda>" q params body scope cl pm c' ctv)) (hcd : s.heap.CodeRec (.ref c') q) (hd : A.depth < recursionLimit) (lim : s.heap.NoLimit) {its : List Value} {z : Str} {tk : Tok}
    (ht : IsTup s.heap t its.toArray) (h0 : its[0]? = some (.str z tk)) : wpAny (model prog wd) A (PySem.call (.ref f) [.ref t]) (PySem.W.KeyPure (.str z) s) (fun _ _ => False) s := by
  have rc : codeAny (model prog wd) A (.call (.ref f) ⟨[.ref t], []⟩) (fun r s' => ∃ v, r = .ok (.ret v) ∧ PySem.W.KeyPure (.str z) s v s') s := by
    refine PySem.W.kla_callFunE hd hf rfl L.co L.gen rfl hcd ?_
    rw [L.bind]
    refine wpAny_pure (wpAny_newFunctionEnv L.cell (fun y hy => ?_) (fun h₁ hns hsb => ⟨lim.fresh _ hsb, ?_⟩) L.kind)
    · rw [List.mem_singleton.mp hy]
      exact L.loc
    have kp : ∀ b o, s.heap.get? b = some o → h₁.get? b = some o := fun b o e => hsb.extBut b o (Nat.ne_of_lt (Heap.lt_size e)) (Heap.get?_push_of_some _ e)
    have ht1 : IsTup h₁ t its.toArray := by
      obtain ⟨o, e1, e2⟩ := ht
      exact ⟨o, kp _ _ e1, e2⟩
    refine PySem.W.kla_codeExpr ?_
    obtain ⟨j, p1, p2, p3, eb⟩ := L.txt
    rw [eb]
    have hm : (fun y => List.lookup y [(x, Value.ref t)].reverse) x = some (.ref t) := by simp
    refine Subscript_Constant (wpAny_Name (wpAny_loadName_local L.kind L.loc hns hm ?_) L.dbg)
    refine wpAny_Constant_int ?_
    have hl : 0 < its.length := (List.getElem?_eq_some_iff.mp h0).1
    have he : atI its 0 = some (.str z tk) := by
      unfold atI ixN
      rw [if_pos (by omega), if_pos (by omega)]
      exact h0
    obtain ⟨i, h1, h2, h3, h4, h5⟩ := atI_get he
    refine ⟨"tuple", _, slot_tuple_getitem.lookup, ht1.typeIs, getItem_tuple (j := i) (x := .str z tk) ht1 (by decide) (by decide) (by rw [List.size_toArray]; exact h1) (by simpa using h2) ?_⟩
    exact ⟨_, rfl, _, _, rfl, kp, .str _ _⟩
  refine wpAny_call (codeAny_mono rc fun r s' hq => ?_)
  obtain ⟨v, rfl, k⟩ := hq
  exact k
end
section
variable {X : Cx} {pins : List (Addr × Obj)} {σ : L2.St} {H : Hp} {s : Shared}
/-- the codes that a table tells -/
def Codes (H : Hp) (q : Str) (ps : Array Value) : Prop := ∀ (pos : Pos) (cv : Value), PySem.codeAmong pos ps.toList = some cv → ∃ c, cv = .ref c ∧ H c = some (LamX.CodeO c q)
/-- what a lambda's making does to what is tracked -/
def Made (H : Hp) (P : Addr) (q : Str) (ps : Array Value) (H1 : Hp) : Prop := H1 = H ∨ ∃ (more : Array Value) (c' : Addr), H c' = none ∧ H1 = upd (upd H P (.tbl (ps ++ more))) c' (LamX.CodeO c' q) ∧ PySem.TriplesOk (ps ++ more).toList ∧
  ∀ (pos : Pos) (cv : Value), PySem.codeAmong pos (ps ++ more).toList = some cv → PySem.codeAmong pos ps.toList = some cv ∨ cv = .ref c'
theorem lam_new {c P : Addr} {ps : Array Value} {params : Arguments} {body : Expr} {scope : Scope} {pos : Pos} {Q : Value → Shared → Prop} {E : Value → Shared → Prop} (I : Inv X pins σ H s) (TB : LamX.TabB X.base X.mg c P) (hcode : X.env.code = .ref c)
    (hP : H P = some (.tbl ps)) (ht : PySem.TriplesOk ps.toList) (ha : Codes H (X.env.qual ++ "<lambda>") ps) (hdef : defaultsOf params X.env = ([], [])) (hfree : ∀ y ∈ scope.names, y.2 ≠ .free)
    (h : ∀ (f c' : Addr) (pm ctv : Value) (cl : List (Str × Addr)) (H1 : Hp) (h1 : Heap) (k1 : Tok), Inv X pins σ H1 { s with heap := h1, toks := k1 } → (∀ b o, b ≠ P → s.heap.get? b = some o → h1.get? b = some o) →
      h1.get? f = some (PySem.W.kla_obj "<lambda>" (X.env.qual ++ "<lambda>") params body scope cl pm c' ctv) → h1.CodeRec (.ref c') (X.env.qual ++ "<lambda>") → Made H P (X.env.qual ++ "<lambda>") ps H1 → Q (.ref f) { s with heap := h1, toks := k1 }) :
    wpAny (model X.prog X.w) X.A (eval (.Lambda params body scope pos) X.env) Q E s := by
  have bP : s.heap.BuiltinsAt X.mg P := TB.bm.keeps I.bk
  have gP : s.heap.get? P = some { cls := .none, data := .fields ps } := I.hok P _ hP
  have hc0 : closureFor scope X.env = pure (cloFrom X.env.cells scope.names []) := closure_ok fun y hy e => absurd e (hfree y hy)
  have hcd : PySem.W.CodeHd s.heap c P := TB.code.keeps I.bk
  refine PySem.W.kla_eval hdef ?_
  cases hk : PySem.codeAmong pos ps.toList with
  | some cv =>
    obtain ⟨c1, rfl, hco⟩ := ha pos cv hk
    refine PySem.W.kla_makeFunctionHit (mg := X.mg) hc0 I.ok.glob (I.mod.glob.keeps I.bk) hcode hcd gP ht hk bP fun ctv h' tk up hsz => ?_
    have up2 : ∀ b o, s.heap.get? b = some o → (h'.push (PySem.W.kla_obj "<lambda>" (X.env.qual ++ "<lambda>") params body scope (cloFrom X.env.cells scope.names []) ((X.mg "__name__").getD .none) c1 ctv)).get? b = some o := fun b o e => Heap.get?_push_of_some _ (up b o e)
    obtain ⟨⟨oc, vs, t, e1, e2, e3⟩, _, _⟩ := I.hok c1 _ hco
    exact h _ c1 _ ctv _ H _ tk (I.kept up2) (fun b o _ e => up2 b o e) (Heap.get?_push_size _ rfl) ⟨c1, oc, vs, t, rfl, up2 _ _ e1, e2, e3⟩ (.inl rfl)
  | none =>
    refine PySem.W.kla_makeFunction (mg := X.mg) hc0 I.ok.glob (I.mod.glob.keeps I.bk) hcode hcd gP ht hk TB.gP bP fun c1 ctv h' tk up hge hlt hrec htb => ?_
    obtain ⟨c2, oc, vs, t, e0, e1, e2, e3⟩ := hrec
    cases e0
    have I1 := LamX.inv_table (q := X.env.qual ++ "<lambda>") (c := c1) (t' := tk) (more := #[rawInt pos.line, rawInt pos.col, .ref c1]) (h' := h'.push (PySem.W.kla_obj "<lambda>" (X.env.qual ++ "<lambda>") params body scope (cloFrom X.env.cells scope.names []) ((X.mg "__name__").getD .none) c1 ctv)) I hP
      (fun b o nb e => Heap.get?_push_of_some _ (up b o nb e)) (Heap.get?_push_of_some _ htb) hge ⟨oc, vs, t, Heap.get?_push_of_some _ e1, e2, e3⟩
    refine h _ c1 _ ctv _ _ _ tk I1 (fun b o nb e => Heap.get?_push_of_some _ (up b o nb e)) (Heap.get?_push_size _ rfl) ⟨c1, oc, vs, t, rfl, Heap.get?_push_of_some _ e1, e2, e3⟩ (.inr ⟨_, c1, I.hok.fresh hge, rfl, ?_, fun p' cv hcv => ?_⟩)
    · rw [Array.toList_append]
      exact PySem.TriplesOk_snoc _ _ _ _ ht
    · rw [Array.toList_append] at hcv
      exact LamX.among_app _ ht hcv

/-- the items with their keys: rows that begin with a text -/
def KeyRow (K : PySem.W.Frag) (H : Hp) (b : V × Str) : Prop := ∃ (t : Addr) (ys : List V), b.1 = V.ref t ∧ SqT K H t (.str b.2 :: ys)
def byK (b : V × Str) : PyData := .str b.2
/-- what sorted(e, key=lambda x: x[0]) does -/
def tSK0 (K : PySem.W.Frag) (P : Addr) (q : Str) (ta : TA) : TE := fun σ H Q => ta σ H fun vs H1 => ∃ (a : Addr) (xs : List V) (bs : List (V × Str)) (ps : Array Value), vs = [.ref a] ∧ SqL K H1 a xs ∧ bs.map Prod.fst = xs ∧ (∀ b ∈ bs, KeyRow K H1 b) ∧ bs.length ≤ sizeLine ∧
  H1 P = some (.tbl ps) ∧ PySem.TriplesOk ps.toList ∧ Codes H1 q ps ∧
  ∀ H2, Made H1 P q ps H2 → ∀ p, H2 p = none → Q (.ref p) (upd H2 p (.lst ((bs.mergeSort (PySem.W.dataLe false byK)).map Prod.fst)))
theorem keep_list {h h1 : Heap} {P a : Addr} {ps : Array Value} {its : Array Value} (hP : h.get? P = some { cls := .none, data := .fields ps }) (k : ∀ b o, b ≠ P → h.get? b = some o → h1.get? b = some o) (hl : h.IsList a its) : h1.IsList a its := by
  obtain ⟨o, e1, e2, e3⟩ := hl
  refine ⟨o, k a o (fun z => ?_) e1, e2, e3⟩
  rw [z, hP] at e1
  cases e1
  cases e2
theorem keep_tup {h h1 : Heap} {P a : Addr} {ps : Array Value} {its : Array Value} (hP : h.get? P = some { cls := .none, data := .fields ps }) (k : ∀ b o, b ≠ P → h.get? b = some o → h1.get? b = some o) (hl : IsTup h a its) : IsTup h1 a its := by
  obtain ⟨o, e1, e2, e3⟩ := hl
  refine ⟨o, k a o (fun z => ?_) e1, e2, e3⟩
  rw [z, hP] at e1
  cases e1
  cases e2
def KR (h : Heap) (u : Value) (b : V × Str) : Prop := RelV b.1 u ∧ ∃ (t : Addr) (its : List Value) (tk : Tok), u = .ref t ∧ IsTup h t its.toArray ∧ its[0]? = some (.str b.2 tk)
theorem each_rows (I : Inv X pins σ H s) : ∀ {bs : List (V × Str)} {us : List Value}, Vals (bs.map Prod.fst) us → (∀ b ∈ bs, KeyRow X.K H b) → PySem.W.EachIs (KR s.heap) us bs
  | [], _, .nil, _ => .nil
  | b :: bs, _, .cons r t, h => by
    refine .cons ⟨r, ?_⟩ (each_rows I t fun x m => h x (List.mem_cons_of_mem _ m))
    obtain ⟨a, ys, e1, e2⟩ := h b List.mem_cons_self
    rw [e1] at r
    obtain ⟨its, rv, pl, _⟩ := I.tuple e2
    cases rv with
    | cons r1 r2 =>
      obtain ⟨tk, rfl⟩ := r1
      exact ⟨a, _, tk, r, pl, rfl⟩
theorem vals_rows {h : Heap} : ∀ {bs : List (V × Str)} {us : List Value}, PySem.W.EachIs (KR h) us bs → Vals (bs.map Prod.fst) us
  | _, _, .nil => .nil
  | _, _, .cons a b => .cons a.1 (vals_rows b)
theorem KR.up {h h1 : Heap} {P : Addr} {ps : Array Value} (hP : h.get? P = some { cls := .none, data := .fields ps }) (k : ∀ b o, b ≠ P → h.get? b = some o → h1.get? b = some o) {u : Value} {b : V × Str} (r : KR h u b) : KR h1 u b := by
  obtain ⟨r1, t, its, tk, e1, e2, e3⟩ := r
  exact ⟨r1, t, its, tk, e1, keep_tup hP k e2, e3⟩
theorem pe_sk0 {c P : Addr} {k : Nat} {x : Str} {params : Arguments} {body e : Expr} {scope : Scope} {ta : TA} {p lpos kpos pos : Pos} (TB : LamX.TabB X.base X.mg c P) (hcode : X.env.code = .ref c) (L : LamOk x params body scope) (hr : Room k X.A) (ha : PA X [e] ta)
    (hdef : defaultsOf params X.env = ([], [])) (hm : X.mg "sorted" = none) (hg : Gl X "sorted")
    (h1 : backTo pos (starEach [e] X.env) = (false, eval e X.env) :: backTo pos (starEach [] X.env) := by rfl) (h2 : (backTo pos (starEach [e] X.env)).any (·.1) = false := by rfl) :
    PE X (.Call (.Name "sorted" p) [e] [⟨some "key", .Lambda params body scope lpos, kpos⟩] pos) (tSK0 X.K P (X.env.qual ++ "<lambda>") ta) := by
  refine ⟨fun pins s σ H Q I h => ?_⟩
  refine wpAny_Call_Name_kw (ld_blt I hg hm bl_sorted ?_)
  refine PyProof.Rows.callWith_kw (thn (ha.run pos pins s σ H _ I h) fun us s1 ⟨vs, H1, I1, r1, q1⟩ => ?_) h1 h2
  obtain ⟨a, xs, bs, ps, rfl, hs, hb, hk, hl, hP, ht, hco, q⟩ := q1
  obtain ⟨u, rfl, ru⟩ := vals1 r1
  obtain rfl : u = Value.ref a := ru
  obtain ⟨its, rv, pl, hz⟩ := I1.list hs
  have gP : s1.heap.get? P = some { cls := .none, data := .fields ps } := I1.hok P _ hP
  rw [← hb] at rv
  have er := each_rows I1 rv hk
  show wpAny _ _ (evalAll ((do let v ← eval (.Lambda params body scope lpos) X.env; standAt pos; pure v) :: [])) _ _ s1
  refine wpAny_evalAll_cons (wpAny_bind (lam_new I1 TB hcode hP ht hco hdef L.free fun f c' pm ctv cl H2 g2 k2 I2 kp hf hcr hmade => wpAny_bind (wpAny_standAt (wpAny_pure (wpAny_evalAll_nil ?_)))))
  show wpAny _ _ (PySem.call (.builtin "sorted") [.ref a] [(Str.ofString "key", .ref f)]) _ _ _
  refine PySem.W.sorted_key_data (s := { s1 with heap := g2, toks := k2 }) (bs := bs) (R := KR g2) (b := false) (f := .ref f) byK (keep_list gP kp pl.isList) ?_ ?_ ?_ hl ?_ (PyProof.Rows.ksk_s1 _ _) (fun _ => PyProof.Rows.ksk_l1 _ _) (fun _ => PyProof.Rows.ksk_t1 _ _) ?_ ?_
  · exact er.mono fun u b r => r.up gP kp
  · intro d m d' m'
    obtain ⟨b, _, rfl⟩ := List.mem_map.mp m
    obtain ⟨b', _, rfl⟩ := List.mem_map.mp m'
    rfl
  · refine .inr fun d m => ?_
    obtain ⟨b, _, rfl⟩ := List.mem_map.mp m
    exact ⟨fun z => (nomatch z), fun _ z => nomatch z⟩
  · intro b m
    have := hr.units
    have hd : (byK b).depth = 0 := by simp [byK, PyData.depth]
    omega
  · rintro v b ⟨_, t, its', tk, rfl, e2, e3⟩ _ h tk' up
    have et : IsTup h t its'.toArray := by
      obtain ⟨o, z1, z2⟩ := e2
      exact ⟨o, up _ _ z1, z2⟩
    refine lam_at (A := X.A.in1.in1) (s := { s1 with heap := h, toks := tk' }) L (up _ _ hf) (hcr.keeps up) ?_ ?_ et e3
    · exact hr.depth
    · exact I2.nolimit.keeps up
  · intro out c2 h' tk' up fr hD hlen eo
    have fp : H2 (g2.objs.size + 1) = none := I2.hok.fresh (Nat.le_succ _)
    refine ⟨.ref (g2.objs.size + 1), _, I2.laid (t' := tk') up (Nat.le_succ _) ?_, rfl, q H2 hmade _ fp⟩
    exact ⟨by rw [List.length_map, List.length_mergeSort]; exact hl, out, c2, vals_rows eo, hD⟩
end
/-! ### .. on data -/
def keyZ : D → Str
  | .tup (.str z :: _) => z
  | _ => ""
def KeyD (d : D) : Prop := ∃ z r, d = D.tup (.str z :: r)
def leK : D → D → Bool := PySem.W.dataLe false fun d : D => PyData.str (keyZ d)
def dSortK0 : List D → Hap → Option D := fun ds h => match ds with
  | [d] => (getL d h).bind fun xs => if (∀ x ∈ xs, KeyD x) ∧ xs.length ≤ sizeLine then some (.lst (xs.mergeSort leK)) else none
  | _ => none
section
variable {K : PySem.W.Frag} {w : Wd} {H : Hp} {h : Hap}
theorem Ok.made [Tbl] (ok : Ok K w H h) {P c' : Addr} {q : Str} {ps qs : Array Value} (hm : (P, q) ∈ Tbl.T) (hu : ∀ p ∈ Tbl.T, p.1 = P → p.2 = q) (hP : H P = some (.tbl ps)) (nC : H c' = none) (ht : PySem.TriplesOk qs.toList)
    (hq : ∀ (pos : Pos) (cv : Value), PySem.codeAmong pos qs.toList = some cv → PySem.codeAmong pos ps.toList = some cv ∨ cv = .ref c') :
    Ok K ⟨upd w.F c' (LamX.CodeO c' q), w.ρ⟩ (upd (upd H P (.tbl qs)) c' (LamX.CodeO c' q)) h ∧ Step w H ⟨upd w.F c' (LamX.CodeO c' q), w.ρ⟩ (upd (upd H P (.tbl qs)) c' (LamX.CodeO c' q)) := by
  obtain ⟨f0, r0⟩ := ok.fresh nC
  have y0 := ok.tab _ hm
  have fP : w.F P = none := y0.f
  have fm : ∀ a u, w.F a = some u → upd w.F c' (LamX.CodeO c' q) a = some u := fun a u e => by
    rw [upd_ne (ne_of_none e f0)]
    exact e
  have old : ∀ a o, H a = some o → NT o → upd (upd H P (.tbl qs)) c' (LamX.CodeO c' q) a = some o := fun a o e n => by
    rw [upd_ne (ne_of_none e nC), upd_ne (fun z => by rw [z, hP] at e; cases e; exact n ps rfl)]
    exact e
  refine ⟨⟨fun a u e => ?_, ok.len, fun i a c e1 e2 => ?_, ok.nd, fun x m => ?_⟩, ⟨fm, ⟨[], by simp⟩, fun a u _ n e => old a u e n, fun a e => ?_, fun a m => .inl m, fun a u e => ?_⟩⟩
  · have e : upd w.F c' (LamX.CodeO c' q) a = some u := e
    by_cases z : a = c'
    · subst z
      rw [upd_same] at e ⊢
      exact e
    · rw [upd_ne z] at e
      rw [upd_ne z, upd_ne (fun y => by rw [y, fP] at e; cases e)]
      exact ok.sub a u e
  · have x := ok.cel i a c e1 e2
    obtain ⟨u, e3, n3⟩ := x.ex ok
    refine x.up (w' := ⟨upd w.F c' (LamX.CodeO c' q), w.ρ⟩) fm (fun _ _ e => e) (fun z => ?_) (by rw [old a u e3 n3, e3])
    show upd w.F c' _ a = none
    rw [upd_ne (ne_of_none e3 nC)]
    exact z
  · have y := ok.tab x m
    obtain ⟨ps', e1, e2, e3⟩ := y.t
    have n1 : x.1 ≠ c' := ne_of_none e1 nC
    by_cases hx : x.1 = P
    · have e4 := hu x m hx
      refine ⟨by show upd w.F c' _ x.1 = none; rw [upd_ne n1]; exact y.f, qs, by rw [upd_ne n1, hx, upd_same], ht, fun pos cv hc => ?_⟩
      rcases hq pos cv hc with z | z
      · rw [hx, hP] at e1
        cases e1
        obtain ⟨c, e5, e6⟩ := e3 pos cv z
        exact ⟨c, e5, fm _ _ e6⟩
      · exact ⟨c', z, by rw [e4]; exact upd_same⟩
    · exact y.up (by show upd w.F c' _ x.1 = _; rw [upd_ne n1]) fm (by rw [upd_ne n1, upd_ne hx])
  · by_cases z : a = c'
    · subst z; exact absurd nC e
    · rw [upd_ne z]
      by_cases z2 : a = P
      · rw [z2, upd_same]; exact fun z => nomatch z
      · rw [upd_ne z2]; exact e
  · by_cases z : a = c'
    · subst z; exact .inr nC
    · have e' : upd w.F c' (LamX.CodeO c' q) a = some u := e
      rw [upd_ne z] at e'
      exact .inl e'
end
theorem e_sortK0 [Tbl] {X : Cx} {W : WX} {c P : Addr} {k : Nat} {x q : Str} {params : Arguments} {body e : Expr} {scope : Scope} {ma : MA} {p lpos kpos pos : Pos} (TB : LamX.TabB X.base X.mg c P) (hcode : X.env.code = .ref c) (hq : X.env.qual ++ "<lambda>" = q) (hmem : (P, q) ∈ Tbl.T) (hu : ∀ p ∈ Tbl.T, p.1 = P → p.2 = q)
    (L : LamOk x params body scope) (hr : Room k X.A) (hm : X.mg "sorted" = none) (hg : Gl X "sorted") (ha : PA X [e] (tA X.K X.mg W ma))
    (hdef : defaultsOf params X.env = ([], []) := by rfl) (h1 : backTo pos (starEach [e] X.env) = (false, eval e X.env) :: backTo pos (starEach [] X.env) := by rfl) (h2 : (backTo pos (starEach [e] X.env)).any (·.1) = false := by rfl) :
    PE X (.Call (.Name "sorted" p) [e] [⟨some "key", .Lambda params body scope lpos, kpos⟩] pos) (tE X.K X.mg W (mCB dSortK0 ma)) := PE.imp (pe_sk0 TB hcode L hr ha hdef hm hg h1 h2) fun σ H Q ⟨w, env, h, ok, er, pp⟩ => by
  rw [hq]
  refine ⟨w, env, h, ok, er, Post.bind pp fun vs ds w1 H1 h1 s1 ok1 v1 p1 => ?_⟩
  obtain ⟨d, ed, qd⟩ := ofO_post p1
  unfold dSortK0 at ed
  split at ed
  · obtain ⟨v, rfl, r⟩ := vrs1 v1
    obtain ⟨ys, e1, e2⟩ := Option.bind_eq_some_iff.mp ed
    split at e2
    · next hS =>
      cases e2
      obtain ⟨hS, hfew⟩ := hS
      obtain ⟨a, vs, rfl, hs, r1⟩ := getL_ok ok1 r e1
      have y0 := ok1.tab _ hmem
      obtain ⟨ps, hP, ht, hco⟩ := y0.t
      have lz := r1.length
      refine ⟨a, vs, (vs.zip ys).map fun z => (z.1, keyZ z.2), ps, rfl, hs, ?_, fun b m => ?_, ?_, hP, ht, fun pos cv hc => ?_, fun H2 hmade p hp => ?_⟩
      · rw [List.map_map]
        show (vs.zip ys).map Prod.fst = vs
        rw [List.map_fst_zip]; omega
      · obtain ⟨z, mz, rfl⟩ := List.mem_map.mp m
        have vz := r1.zip_ok z mz
        have mz2 : z.2 ∈ ys := (List.of_mem_zip mz).2
        obtain ⟨zz, rr, ez⟩ := hS z.2 mz2
        obtain ⟨v, y⟩ := z
        have ez : y = .tup (.str zz :: rr) := ez
        subst ez
        have vz : VR X.K w1 v (.tup (.str zz :: rr)) := vz
        cases vz with
        | tup e t =>
          cases t with
          | cons t1 t2 =>
            cases t1
            exact ⟨_, _, rfl, sqT_mono ok1.sub e⟩
      · rw [List.length_map, List.length_zip]; omega
      · obtain ⟨c2, e5, e6⟩ := hco pos cv hc
        exact ⟨c2, e5, ok1.sub _ _ e6⟩
      · have vsort : ∀ {w2 : Wd}, VRs X.K w2 vs ys → VRs X.K w2 ((((vs.zip ys).map fun z => (z.1, keyZ z.2)).mergeSort (PySem.W.dataLe false byK)).map Prod.fst) (ys.mergeSort leK) := fun {w2} r2 => by
          have m1 : ((vs.zip ys).map fun z => (z.1, keyZ z.2)).mergeSort (PySem.W.dataLe false byK) = ((vs.zip ys).mergeSort fun a b => leK a.2 b.2).map fun z => (z.1, keyZ z.2) :=
            (PySem.W.sort_maps (r := fun a b : V × D => leK a.2 b.2) (s := PySem.W.dataLe false byK) (fun z => (z.1, keyZ z.2)) (l := vs.zip ys) fun _ _ _ _ => rfl).symm
          have m2 : ((vs.zip ys).mergeSort fun a b => leK a.2 b.2).map Prod.snd = ys.mergeSort leK := by
            have z := PySem.W.sort_maps (r := fun a b : V × D => leK a.2 b.2) (s := leK) Prod.snd (l := vs.zip ys) fun _ _ _ _ => rfl
            rw [z, zip_snd lz]
          rw [m1, List.map_map, ← m2]
          exact vrs_of fun p m => r2.zip_ok p (List.mem_mergeSort.mp m)
        rcases hmade with rfl | ⟨more, c', nC, rfl, ht', hq'⟩
        · exact qd _ _ _ (ok1.alloc hp).2 (ok1.alloc hp).1 (vr_lst ok1 hp (vsort r1))
        · obtain ⟨ok2, st2⟩ := ok1.made hmem hu hP nC ht' hq'
          exact qd _ _ _ (st2.trans (ok2.alloc hp).2) (ok2.alloc hp).1 (vr_lst ok2 hp (vsort (r1.mono st2)))
    · cases e2
  · cases ed
/-! ### a def that makes a lambda -/
structure HasL [Tbl] (K : PySem.W.Frag) (mg : Str → Option Value) (base : Heap) (x : Str) (st : Stmt) (ps : List Str) : Prop where
  ex : ∃ (f : Addr) (fd : FuncData) (c P : Addr), Fun K x x st f fd ∧ fd.code = .ref c ∧ mg x = some (.ref f) ∧ Binds K fd ps [] ∧ LamX.TabB base mg c P ∧ (P, x ++ ".<locals>." ++ "<lambda>") ∈ Tbl.T ∧ ∀ p ∈ Tbl.T, p.1 = P → p.2 = x ++ ".<locals>." ++ "<lambda>"
theorem OkF.mkL [Tbl] {P : Program} {wd : World} {K : PySem.W.Frag} {mg : Str → Option Value} {base : Heap} {k n z : Nat} {b : MS} {m : MF} {x : Str} {st : Stmt} {N ps : List Str} (h : HasL K mg base x st ps) (S : FnScope N ps (defScope st)) (hn : ps.length = n) (hN : N.length = z) (hm : m = run z b)
    (hbody : ∀ (f c PT : Addr) (A : Around) (outer : List PySem.Env) (s : Shared) (H : Hp) (E : XK), LamX.TabB base mg c PT → (PT, x ++ ".<locals>." ++ "<lambda>") ∈ Tbl.T → (∀ p ∈ Tbl.T, p.1 = PT → p.2 = x ++ ".<locals>." ++ "<lambda>") → Room k (A.deeper (envOfC x (defScope st) s.heap.objs.size f (.ref c))) →
      PSs (cxOf (L2N.CX P wd) P wd K mg base N x (defScope st) f (.ref c) A outer s H E) (defBody st) (tS K mg (fun cls d _ H => E cls d H) b)) : OkF P wd K mg base x (k + 1) n m := by
  obtain ⟨f, fd, c, PT, F, hc, hf, hb, TB, h1, h2⟩ := h.ex
  subst hn hN hm
  refine ⟨f, fd, ps, hf, F.kp, hb, ?_⟩
  obtain ⟨c1, c2, c3, c4, c5, c6, c7, c8, c9, rfl, l, hcd⟩ := F.ex
  have hc : c7 = .ref c := hc
  subst hc
  refine fn_of l hcd S (fun vs H Q E h => h.1) fun A outer s H vs Q E hr h => ?_
  obtain ⟨hl, w, ds, h, ok, r, p⟩ := h
  refine ⟨_, hbody f c PT A outer s H E TB h1 h2 hr, w, env0 N.length ds, h, ok, env0_ok r, ?_⟩
  unfold run at p
  revert p
  cases b (env0 N.length ds) h with
  | nx e1 h1 => exact fun p σ' w' H' s ok' er' => p _ _ _ s ok' .non
  | bk e1 h1 => exact fun p => p.elim
  | ct e1 h1 => exact fun p => p.elim
  | rt e1 h1 => exact fun p => p
  | er c fs e1 h1 => exact fun p cv d σ' w' H' hc s ok' er' x => p cv d w' H' hc s ok' x
  | stuck => exact fun p => p
end
end Vi

set_option Elab.async false
set_option linter.all false
set_option autoImplicit false
set_option maxRecDepth 100000
set_option maxHeartbeats 2000000
namespace Vi
open PySem PySem.Spec PyProof.Rows L2
open scoped Classical
noncomputable section
/-! ### list(x), a list that will change -/
def mCelL (a : MA) : ME := fun env h => (a env h).bind fun ds h1 => match ds with
  | [d] => match getQ d h1 with
    | some xs => .ok (.ref h1.length) (h1 ++ [.lst xs])
    | none => .stuck
  | _ => .stuck
theorem e_celL [Tbl] {X : Cx} {W : WX} {e : Expr} {m : MA} {p pos : Pos} (hg : Gl X "list") (hm : X.mg "list" = none) (ha : PA X [e] (tA X.K X.mg W m))
    (he : starEach [e] X.env = (false, eval e X.env) :: starEach [] X.env := by rfl) (hpl : (backTo pos (starEach [] X.env)).any (·.1) = false := by rfl) : PE X (.Call (.Name "list" p) [e] [] pos) (tE X.K X.mg W (mCelL m)) := PE.imp (pe_callTy call_list_of hg hm bl_list ha (by decide) (by decide) he hpl) fun σ H Q ⟨w, env, h, ok, er, pp⟩ =>
  ⟨w, env, h, ok, er, Post.bind pp fun vs ds w1 H1 h1 s1 ok1 v1 p1 => by
    split at p1
    · next d =>
      obtain ⟨x, rfl, r⟩ := vrs1 v1
      split at p1
      · next xs q =>
        obtain ⟨a, ys, rfl, hs, r1⟩ := getQ_ok ok1 r q
        refine ⟨a, ys, rfl, hs, fun l hl => ?_⟩
        have z := ok1.cell (c := .lst xs) (o := .lst ys) hl r1
        refine p1 _ _ _ z.2 z.1 (.ref ?_)
        show (w1.ρ ++ [l])[h1.length]? = some l
        rw [← ok1.len, List.getElem?_append_right (Nat.le_refl _), Nat.sub_self]
        rfl
      · exact p1.elim
    · exact p1.elim⟩
theorem x_celL {h : Hap} {env : Env} {a : MA} {P : D → Hap → Prop} (s : Sat (a env h) fun ds h1 => ∃ d xs, ds = [d] ∧ getQ d h1 = some xs ∧ P (.ref h1.length) (h1 ++ [.lst xs])) : Sat (mCelL a env h) P := Sat.bind (s.mono fun ds h1 ⟨d, xs, e1, e2, p⟩ => by
  subst e1
  simp only []
  rw [e2]
  exact p)
/-! ### defs that make lambdas: the law's own, the facts of the top -/
section
variable {K : PySem.W.Frag} {x : Str} {f c PT : Addr} {h : Heap} {mg mb : Str → Option Value}
theorem code_of_tab {oc : Value} {od : Option Addr} {fd : FuncData} {sl : Array (Option Value)} (a : PySem.W.nsIn K mainGlobals x = some (some (.ref f))) (l : K.lookup f = some ⟨oc, od, .func fd, sl⟩) (t : PySem.W.tabIn K x = some (c, PT)) : fd.code = .ref c := by
  unfold PySem.W.tabIn at t
  rw [a] at t
  simp only [] at t
  rw [l] at t
  simp only [] at t
  split at t
  · next c' hc =>
    split at t
    · split at t
      · cases t
        exact hc
      · cases t
    · cases t
  · cases t
theorem no_tab (X : K.In h) (n : PySem.W.noTabs K = true) (e : h.get? PT = some { cls := .none, data := .fields #[] }) : K.lookup PT = none := by
  cases q : K.lookup PT with
  | none => rfl
  | some o =>
    have e2 := X _ _ q
    rw [e] at e2
    cases e2
    have h2 := List.all_eq_true.mp n (PT, _) (PySem.W.mem_of_lookupK q)
    cases h2
theorem tab_facts {q : Program} {loose : List Str} {mean : ExcName → Option Value} {d : DefRec} (X : K.In h) (T : Top q loose mean mg mb h) (n : PySem.W.noTabs K = true) (hr : (recsOf q).find? (fun e => e.name == x) = some d) (t : PySem.W.tabIn K x = some (c, PT)) :
    h.get? PT = some { cls := .none, data := .fields #[] } ∧ K.lookup PT = none ∧ PySem.W.CodeHd h c PT := by
  obtain ⟨h1, h2⟩ := PySem.W.tab_of T X hr t
  exact ⟨h2, no_tab X n h2, h1⟩
end
end
end Vi

set_option Elab.async false
set_option linter.all false
set_option autoImplicit false
set_option maxRecDepth 100000
set_option maxHeartbeats 2000000
namespace Vi
open PySem PySem.Spec PyProof.Rows L2
open scoped Classical
/-! ### what a mirror that may raise satisfies -/
abbrev EX := Str → Option (List (Str × D)) → Hap → Prop
abbrev EXS := Str → Option (List (Str × D)) → Env → Hap → Prop
def SatX {α : Type} (r : Rs α) (P : α → Hap → Prop) (E : EX) : Prop := match r with
  | .ok a h => P a h
  | .err c fs h => E c fs h
  | .stuck => False
def SatSX (r : RS) (P : Ps) (E : EXS) : Prop := match r with
  | .nx e h => P.n e h
  | .rt d h => P.r d h
  | .bk e h => P.b e h
  | .ct e h => P.c e h
  | .er c fs e h => E c fs e h
  | .stuck => False
section
variable {α β : Type} {P : α → Hap → Prop} {Q : Ps} {h : Hap} {env : Env} {E : EX} {F : EXS}
theorem SatX.of {r : Rs α} (s : Sat r P) : SatX r P E := by
  cases r with
  | ok a h => exact s
  | err => exact s.elim
  | stuck => exact s.elim
theorem SatSX.of {r : RS} (s : SatS r Q) : SatSX r Q F := by
  cases r with
  | nx e h => exact s
  | rt e h => exact s
  | bk e h => exact s
  | ct e h => exact s
  | er => exact s.elim
  | stuck => exact s.elim
theorem SatX.mono {r : Rs α} {P' : α → Hap → Prop} {E' : EX} (s : SatX r P E) (i : ∀ a h, P a h → P' a h) (j : ∀ c fs h, E c fs h → E' c fs h) : SatX r P' E' := by
  cases r with
  | ok a h => exact i a h s
  | err c fs h => exact j c fs h s
  | stuck => exact s
/-- behind a part that does not raise -/
theorem X.seq {a b : MS} (s : SatS (a env h) ⟨fun e h1 => SatSX (b e h1) Q F, Q.r, Q.b, Q.c⟩) : SatSX (mSeq a b env h) Q F := by
  unfold mSeq
  revert s
  cases a env h with
  | nx e h => exact fun s => s
  | rt e h => exact fun s => s
  | bk e h => exact fun s => s
  | ct e h => exact fun s => s
  | er => exact fun s => s.elim
  | stuck => exact fun s => s.elim
theorem X.seqX {a b : MS} (s : SatSX (a env h) ⟨fun e h1 => SatSX (b e h1) Q F, Q.r, Q.b, Q.c⟩ F) : SatSX (mSeq a b env h) Q F := by
  unfold mSeq
  revert s
  cases a env h with
  | nx e h => exact fun s => s
  | rt e h => exact fun s => s
  | bk e h => exact fun s => s
  | ct e h => exact fun s => s
  | er => exact fun s => s
  | stuck => exact fun s => s.elim
theorem X.fn {n : Nat} {b : MS} {ds : List D} {P : D → Hap → Prop} (s : SatSX (b (env0 n ds) h) ⟨fun _ h => P .non h, P, fun _ _ => False, fun _ _ => False⟩ fun c fs _ h => E c fs h) : SatX (run n b ds h) P E := by
  unfold run
  revert s
  cases b (env0 n ds) h with
  | nx e h => exact fun s => s
  | rt e h => exact fun s => s
  | bk e h => exact fun s => s.elim
  | ct e h => exact fun s => s.elim
  | er => exact fun s => s
  | stuck => exact fun s => s.elim
theorem X.ife {t : MT} {a b : MS} (s : Sat (t env h) fun x h1 => (x = true → SatSX (a env h1) Q F) ∧ (x = false → SatSX (b env h1) Q F)) : SatSX (mIfS t a b env h) Q F := by
  unfold mIfS
  revert s
  cases t env h with
  | ok x h1 =>
    intro s
    cases x with
    | true => exact s.1 rfl
    | false => exact s.2 rfl
  | err => exact fun s => s.elim
  | stuck => exact fun s => s.elim
theorem X.raise {c : Str} {ns : List Str} {a : MA} (s : Sat (a env h) fun xs h1 => xs.length = ns.length ∧ ns.length ≤ 1000 ∧ F c (some (ns.zip xs).reverse) env h1) : SatSX (mRaiseF c ns a env h) Q F := by
  unfold mRaiseF
  revert s
  cases a env h with
  | ok xs h1 =>
    intro s
    show SatSX (if _ then _ else _) _ _
    rw [if_pos ⟨s.1, s.2.1⟩]
    exact s.2.2
  | err => exact fun s => s.elim
  | stuck => exact fun s => s.elim
/-- x = f(..), return f(..), f(..) where f may raise -/
theorem X.bind {m : MF} {a : MA} {k : D → Hap → RS} (s : Sat (a env h) fun xs h1 => SatX (m xs h1) (fun d h2 => SatSX (k d h2) Q F) fun c fs h2 => F c fs env h2) : SatSX (RsS (mCall m a env h) env k) Q F := by
  unfold mCall
  revert s
  cases a env h with
  | ok xs h1 =>
    intro s
    have s : SatX (m xs h1) (fun d h2 => SatSX (k d h2) Q F) fun c fs h2 => F c fs env h2 := s
    show SatSX (RsS (m xs h1) env k) Q F
    revert s
    cases m xs h1 with
    | ok d h2 => exact fun s => s
    | err => exact fun s => s
    | stuck => exact fun s => s.elim
  | err => exact fun s => s.elim
  | stuck => exact fun s => s.elim
theorem X.set {m : MF} {a : MA} {i : Nat} (s : Sat (a env h) fun xs h1 => SatX (m xs h1) (fun d h2 => Q.n (env.set i (some d)) h2) fun c fs h2 => F c fs env h2) : SatSX (mAsg (mCall m a) (gNm i) env h) Q F := X.bind s
theorem X.ret {m : MF} {a : MA} (s : Sat (a env h) fun xs h1 => SatX (m xs h1) Q.r fun c fs h2 => F c fs env h2) : SatSX (mRet (mCall m a) env h) Q F := X.bind s
/-- try: .. except C as e: .. -/
theorem X.tryAs {cs os : List Str} {i : Nat} {b : MS} {su : Str → Option (List (Str × D)) → MS} (s : SatSX (b env h) Q fun c fs e h1 => c ∈ cs ∧ SatS (su c fs (e.set i none) h1) ⟨fun e2 h2 => Q.n (e2.set i none) h2, Q.r, fun e2 h2 => Q.b (e2.set i none) h2, fun e2 h2 => Q.c (e2.set i none) h2⟩) : SatS (mTryAs cs os i b su env h) Q := by
  unfold mTryAs
  revert s
  cases b env h with
  | nx e h => exact fun s => s
  | rt e h => exact fun s => s
  | bk e h => exact fun s => s
  | ct e h => exact fun s => s
  | stuck => exact fun s => s.elim
  | er c fs e h1 =>
    intro s
    obtain ⟨m, s⟩ := s
    show SatS (if _ then _ else _) _
    rw [if_pos m]
    revert s
    cases su c fs (e.set i none) h1 with
    | nx e h => exact fun s => s
    | rt e h => exact fun s => s
    | bk e h => exact fun s => s
    | ct e h => exact fun s => s
    | stuck => exact fun s => s.elim
    | er => exact fun s => s.elim
end
/-! ### loops that leave the cells as they were -/
section
variable {env : Env} {h : Hap} {Q : Ps}
theorem x_compFM {s : MI} {vs : List Nat} {g : MG} {c : MT} {e : ME} {P : D → Hap → Prop} (xs : List D) (p : D → Bool) (f : D → D) (hsz : xs.length ≤ sizeLine) (hs : Sat (s env h) fun s h1 => h1 = h ∧ s.1 = xs ∧ s.2 h)
    (he : ∀ x ∈ xs, ∃ e1, g x (wipeE env vs) h = some e1 ∧ Sat (c e1 h) fun t h1 => h1 = h ∧ t = p x ∧ (t = true → Sat (e e1 h) fun d h2 => d = f x ∧ h2 = h)) (k : P (.lst ((xs.filter p).map f)) h) : Sat (mComp s vs g c e env h) P := by
  refine x_compI (fun pre post h1 acc => h1 = h ∧ acc = (pre.filter p).map f) (hs.mono fun s1 h1 z => ?_)
  obtain ⟨rfl, rfl, hg⟩ := z
  refine ⟨⟨rfl, rfl⟩, fun _ _ h2 _ _ z => by rw [z.1]; exact hg, ?_, ?_⟩
  · rintro pre x post h2 acc hx ⟨rfl, rfl⟩
    have hm : x ∈ s1.1 := by rw [hx]; simp
    obtain ⟨e1, q1, q2⟩ := he x hm
    refine ⟨e1, q1, q2.mono fun t h3 z => ?_⟩
    obtain ⟨rfl, rfl, z⟩ := z
    refine ⟨fun ht => ⟨?_, (z ht).mono fun d h4 z => ?_⟩, fun ht => ⟨rfl, ?_⟩⟩
    · have h5 : ((pre.filter p).map f).length ≤ pre.length := by rw [List.length_map]; exact List.length_filter_le _ _
      have h6 : s1.1.length = pre.length + (post.length + 1) := by rw [hx]; simp
      omega
    · obtain ⟨rfl, rfl⟩ := z
      refine ⟨rfl, ?_⟩
      rw [List.filter_append, List.map_append]
      congr 1
      simp [ht]
    · rw [List.filter_append, List.map_append]
      simp [ht]
  · rintro h2 acc ⟨rfl, rfl⟩
    exact k
theorem x_compM {s : MI} {vs : List Nat} {g : MG} {e : ME} {P : D → Hap → Prop} (xs : List D) (f : D → D) (hsz : xs.length ≤ sizeLine) (hs : Sat (s env h) fun s h1 => h1 = h ∧ s.1 = xs ∧ s.2 h)
    (he : ∀ x ∈ xs, ∃ e1, g x (wipeE env vs) h = some e1 ∧ Sat (e e1 h) fun d h2 => d = f x ∧ h2 = h) (k : P (.lst (xs.map f)) h) : Sat (mComp s vs g mYes e env h) P :=
  x_compFM xs (fun _ => true) f hsz hs (fun x m => let ⟨e1, q1, q2⟩ := he x m; ⟨e1, q1, x_yes ⟨rfl, rfl, fun _ => q2⟩⟩) (by rw [List.filter_eq_self.mpr (fun _ _ => rfl)]; exact k)
theorem x_items {m : ME} {xs : List D} {dd : D} (hd : seqOf dd h = some xs) (hm : Sat (m env h) fun d h1 => d = dd ∧ h1 = h) : Sat (mI m env h) fun s h1 => h1 = h ∧ s.1 = xs ∧ s.2 h := x_mI (hm.mono fun d h1 e => by
  obtain ⟨rfl, rfl⟩ := e
  exact ⟨_, hd, rfl, rfl, hd⟩)
/-- a for whose body may raise -/
theorem X.forI {s : MI} {g : MG} {b : MS} {F : EXS} (I : List D → List D → Env → Hap → Prop) (hs : Sat (s env h) fun s h1 => I [] s.1 env h1 ∧ (∀ pre post e h, s.1 = pre ++ post → I pre post e h → s.2 h) ∧
      (∀ pre x post e h, s.1 = pre ++ x :: post → I pre (x :: post) e h → ∃ e1, g x e h = some e1 ∧ SatSX (b e1 h) ⟨fun e h => I (pre ++ [x]) post e h, Q.r, Q.n, fun e h => I (pre ++ [x]) post e h⟩ F) ∧
      (∀ e h, I s.1 [] e h → Q.n e h)) : SatSX (mFor s g b env h) Q F := by
  unfold mFor
  obtain ⟨⟨xs, gd⟩, h1, e1, z⟩ := hs.ex
  rw [e1]
  obtain ⟨h0, hg, ht, he⟩ := z
  show SatSX (forL gd g b xs env h1) Q F
  have go : ∀ (post pre : List D) (e : Env) (h : Hap), xs = pre ++ post → I pre post e h → SatSX (forL gd g b post e h) Q F := by
    intro post
    induction post with
    | nil =>
      intro pre e h q i
      unfold forL
      rw [if_pos (hg pre [] e h q i)]
      rw [List.append_nil] at q
      subst q
      exact he e h i
    | cons x post ih =>
      intro pre e h q i
      unfold forL
      rw [if_pos (hg pre _ e h q i)]
      obtain ⟨e1, q1, t⟩ := ht pre x post e h q i
      rw [q1]
      show SatSX ((b e1 h).turn (forL gd g b post)) Q F
      revert t
      cases b e1 h with
      | nx e2 h2 => exact fun t => ih (pre ++ [x]) e2 h2 (by simpa using q) t
      | ct e2 h2 => exact fun t => ih (pre ++ [x]) e2 h2 (by simpa using q) t
      | bk e2 h2 => exact fun t => t
      | rt d h2 => exact fun t => t
      | er => exact fun t => t
      | stuck => exact fun t => t.elim
  exact go xs [] env h1 rfl h0
end
end Vi

set_option Elab.async false
set_option linter.all false
set_option autoImplicit false
set_option maxRecDepth 100000
set_option maxHeartbeats 2000000
namespace Vi
open PySem PySem.Spec PyProof.Rows L2
open scoped Classical
noncomputable section
/-! ### a dict that is walked: locked while it is -/
def delF (F : Hp) (a : Addr) : Hp := fun b => if b = a then none else F b
theorem delF_ne {F : Hp} {a b : Addr} (h : b ≠ a) : delF F a b = F b := by
  unfold delF
  rw [if_neg h]
theorem delF_same {F : Hp} {a : Addr} : delF F a a = none := by
  unfold delF
  rw [if_pos rfl]
theorem delF_some {F : Hp} {a b : Addr} {o : HO} (h : delF F a b = some o) : b ≠ a ∧ F b = some o := by
  by_cases e : b = a
  · rw [e, delF_same] at h
    cases h
  · rw [delF_ne e] at h
    exact ⟨e, h⟩
section
variable {K : PySem.W.Frag} {w : Wd} {H : Hp} {h : Hap} {a : Addr} {od : Obj} {vs : List (Key × V)}
mutual
theorem VR.less (fa : w.F a = some (.frz od (.dK vs))) : ∀ {v : V} {d : D}, VR K w v d → VR K ⟨delF w.F a, w.ρ⟩ v d
  | _, _, .non => .non
  | _, _, .bl b => .bl b
  | _, _, .int i => .int i
  | _, _, .str x => .str x
  | _, _, .ty n => .ty n
  | _, _, .lst e t => .lst (by show delF w.F a _ = _; rw [delF_ne (fun z => by rw [z, fa] at e; cases e)]; exact e) (VRs.less fa t)
  | _, _, .klst e t => .klst (by
      rcases e with (e | ⟨o, e⟩) | e
      · exact .inl (.inl (by show delF w.F a _ = _; rw [delF_ne (fun z => by rw [z, fa] at e; cases e)]; exact e))
      · exact .inl (.inr ⟨o, by show delF w.F a _ = _; rw [delF_ne (fun z => by rw [z, fa] at e; cases e)]; exact e⟩)
      · exact .inr e) (VRs.less fa t)
  | _, _, .tup e t => .tup (by
      rcases e with (e | ⟨o, e⟩) | e
      · exact .inl (.inl (by show delF w.F a _ = _; rw [delF_ne (fun z => by rw [z, fa] at e; cases e)]; exact e))
      · exact .inl (.inr ⟨o, by show delF w.F a _ = _; rw [delF_ne (fun z => by rw [z, fa] at e; cases e)]; exact e⟩)
      · exact .inr e) (VRs.less fa t)
  | _, _, .ref e => .ref e
theorem VRs.less (fa : w.F a = some (.frz od (.dK vs))) : ∀ {v : List V} {d : List D}, VRs K w v d → VRs K ⟨delF w.F a, w.ρ⟩ v d
  | _, _, .nil => .nil
  | _, _, .cons r t => .cons (VR.less fa r) (VRs.less fa t)
end
theorem CRel.less (fa : w.F a = some (.frz od (.dK vs))) {o : HO} {c : Cel} (x : CRel K w o c) : CRel K ⟨delF w.F a, w.ρ⟩ o c := by
  cases o <;> cases c <;> first
    | exact VRs.less fa x
    | exact ⟨x.1, VRs.less fa x.2⟩
    | exact ⟨x.1, x.2.1, VRs.less fa x.2.2⟩
    | exact x
theorem Ok.lock [Tbl] (ok : Ok K w H h) {j : Nat} {kds : List (Key × D)} (hj : w.ρ[j]? = some a) (hc : h[j]? = some (.dct kds)) (ha : H a = some (.dK vs)) (r : KVR K w vs kds) :
    Ok K ⟨upd w.F a (.frz od (.dK vs)), w.ρ⟩ (upd H a (.frz od (.dK vs))) (h.set j (.lok kds)) ∧ ∀ b u, w.F b = some u → upd w.F a (.frz od (.dK vs)) b = some u := by
  have f0 : w.F a = none := (ok.cel j a _ hj hc).1
  have fm : ∀ b u, w.F b = some u → upd w.F a (.frz od (.dK vs)) b = some u := fun b u e => by
    rw [upd_ne (ne_of_none e f0)]
    exact e
  have hl : j < w.ρ.length := (List.getElem?_eq_some_iff.mp hj).1
  have hl' : j < h.length := by rw [← ok.len]; exact hl
  refine ⟨⟨fun b u e => ?_, by rw [List.length_set]; exact ok.len, fun i b c e1 e2 => ?_, ok.nd, fun x m => ?_⟩, fm⟩
  · have e : upd w.F a (.frz od (.dK vs)) b = some u := e
    by_cases z : b = a
    · rw [z, upd_same] at e ⊢
      exact e
    · rw [upd_ne z] at e ⊢
      exact ok.sub b u e
  · by_cases q : j = i
    · subst q
      rw [hj] at e1
      cases e1
      rw [List.getElem?_set_self hl'] at e2
      cases e2
      exact ⟨od, vs, upd_same, r.fst, VRs.mono' (w := w) (w' := ⟨upd w.F a (.frz od (.dK vs)), w.ρ⟩) fm (fun _ _ e => e) r.snd⟩
    · rw [List.getElem?_set_ne q] at e2
      have ne : b ≠ a := fun z => by
        subst z
        exact q ((List.getElem?_inj hl ok.nd).mp (by rw [hj, e1]))
      exact (ok.cel i b c e1 e2).up fm (fun _ _ e => e) (fun z => by show upd w.F a _ b = none; rw [upd_ne ne]; exact z) (upd_ne ne)
  · have y := ok.tab x m
    have ne := y.ne (p := a) fun o e => by rw [ha] at e; cases e; exact fun _ z => nomatch z
    exact y.up (by show upd w.F a _ x.1 = _; rw [upd_ne ne]) fm (by rw [upd_ne ne])
theorem Ok.unlock [Tbl] (ok : Ok K w H h) {j : Nat} {kds : List (Key × D)} (hj : w.ρ[j]? = some a) (fa : w.F a = some (.frz od (.dK vs))) (r : KVR K w vs kds) :
    Ok K ⟨delF w.F a, w.ρ⟩ (upd H a (.dK vs)) (h.set j (.dct kds)) := by
  have hl : j < w.ρ.length := (List.getElem?_eq_some_iff.mp hj).1
  have hl' : j < h.length := by rw [← ok.len]; exact hl
  refine ⟨fun b u e => ?_, by rw [List.length_set]; exact ok.len, fun i b c e1 e2 => ?_, ok.nd, fun x m => ?_⟩
  · obtain ⟨ne, e⟩ := delF_some e
    rw [upd_ne ne]
    exact ok.sub b u e
  · by_cases q : j = i
    · subst q
      rw [hj] at e1
      cases e1
      rw [List.getElem?_set_self hl'] at e2
      cases e2
      exact .of delF_same upd_same ⟨r.fst, VRs.less fa r.snd⟩
    · rw [List.getElem?_set_ne q] at e2
      have ne : b ≠ a := fun z => by
        subst z
        exact q ((List.getElem?_inj hl ok.nd).mp (by rw [hj, e1]))
      have x := ok.cel i b c e1 e2
      by_cases hc : ∃ kds, c = .lok kds
      · obtain ⟨kds', rfl⟩ := hc
        obtain ⟨o', v', e3, e4, e5⟩ := x
        exact ⟨o', v', by show delF w.F a b = _; rw [delF_ne ne]; exact e3, e4, VRs.less fa e5⟩
      · obtain ⟨z, o, e3, e4⟩ := x.un fun kds z => hc ⟨kds, z⟩
        exact .of (by show delF w.F a b = _; rw [delF_ne ne]; exact z) (by rw [upd_ne ne]; exact e3) (CRel.less fa e4)
  · have y := ok.tab x m
    have ne : x.1 ≠ a := fun z => by
      have := y.f
      rw [z, fa] at this
      cases this
    obtain ⟨ps, e1, e2, e3⟩ := y.t
    refine ⟨by show delF w.F a x.1 = none; rw [delF_ne ne]; exact y.f, ps, by rw [upd_ne ne]; exact e1, e2, fun pos cv hc => ?_⟩
    obtain ⟨c, e4, e5⟩ := e3 pos cv hc
    refine ⟨c, e4, ?_⟩
    show delF w.F a c = _
    rw [delF_ne (fun z => by rw [z, fa] at e5; unfold LamX.CodeO at e5; cases e5)]
    exact e5
/-- the lock and its end together -/
theorem lock_step {w' : Wd} {H' : Hp} (f0 : w.F a = none) (ar : a ∈ w.ρ) (ha : H a = some (.dK vs)) (st : Step ⟨upd w.F a (.frz od (.dK vs)), w.ρ⟩ (upd H a (.frz od (.dK vs))) w' H') : Step w H ⟨delF w'.F a, w'.ρ⟩ (upd H' a (.dK vs)) := by
  refine ⟨fun b u e => ?_, st.r, fun b u n nt e => ?_, fun b e => ?_, fun b m => ?_, fun b u e => ?_⟩
  · have ne : b ≠ a := ne_of_none e f0
    show delF w'.F a b = some u
    rw [delF_ne ne]
    exact st.f b u (by show upd w.F a _ b = _; rw [upd_ne ne]; exact e)
  · have ne : b ≠ a := fun z => n (by rw [z]; exact ar)
    rw [upd_ne ne]
    exact st.keep b u n nt (by rw [upd_ne ne]; exact e)
  · by_cases ne : b = a
    · rw [ne, upd_same]
      exact fun z => nomatch z
    · rw [upd_ne ne]
      exact st.dom b (by rw [upd_ne ne]; exact e)
  · rcases st.new b m with z | z
    · exact .inl z
    · by_cases ne : b = a
      · exact .inl (by rw [ne]; exact ar)
      · rw [upd_ne ne] at z
        exact .inr z
  · obtain ⟨ne, e⟩ := delF_some e
    rcases st.nf b u e with z | z
    · have z : upd w.F a (.frz od (.dK vs)) b = some u := z
      rw [upd_ne ne] at z
      exact .inl z
    · rw [upd_ne ne] at z
      exact .inr z
end
/-- an expression in which the dict at slot i is walked -/
def mLokE (i : Nat) (m : ME) : ME := fun env h => match env[i]? with
  | some (some (.ref j)) => match h[j]? with
    | some (.dct kds) => match m env (h.set j (.lok kds)) with
      | .ok d h2 => if h2[j]? = some (.lok kds) then .ok d (h2.set j (.dct kds)) else .stuck
      | _ => .stuck
    | _ => .stuck
  | _ => .stuck
theorem e_lok [Tbl] {X : Cx} {W : WX} {i : Nat} {e : Expr} {m : ME} (he : PE X e (tE X.K X.mg W m)) : PE X e (tE X.K X.mg W (mLokE i m)) := PE.imp (pe_lock he) fun σ H Q ⟨w, env, h, ok, er, p⟩ => by
  unfold mLokE at p
  split at p
  · next j ej =>
    split at p
    · next kds hj =>
      obtain ⟨v, e1, e2⟩ := er.get i _ ej
      obtain ⟨a, j', vs, rfl, e3, hr, hc, ha, r⟩ := getD_ok (ds := kds) ok e2 (by unfold getD; dsimp only; rw [hj])
      cases e3
      have f0 : w.F a = none := (ok.cel j a _ hr hc).1
      have ar : a ∈ w.ρ := List.mem_of_getElem? hr
      refine ⟨a, .dK vs, ha, trivial, fun od => ?_⟩
      obtain ⟨ok1, fm⟩ := ok.lock (od := od) hr hc ha r
      refine ⟨_, env, _, ok1, ⟨er.len, fun i d e => ?_⟩, ?_⟩
      · obtain ⟨v, z1, z2⟩ := er.get i d e
        exact ⟨v, z1, VR.mono' (w := w) (w' := ⟨upd w.F a (.frz od (.dK vs)), w.ρ⟩) fm (fun _ _ e => e) z2⟩
      · revert p
        cases m env (h.set j (.lok kds)) with
        | ok d h2 =>
          intro p v w' H' st ok' vr
          have p : Post X.K X.mg (VR X.K) w H (if h2[j]? = some (.lok kds) then .ok d (h2.set j (.dct kds)) else .stuck) Q fun c d H' => W c d σ H' := p
          by_cases hz : h2[j]? = some (.lok kds)
          · rw [if_pos hz] at p
            have fa : w'.F a = some (.frz od (.dK vs)) := st.f _ _ upd_same
            have hr' : w'.ρ[j]? = some a := st.ix hr
            have r' : KVR X.K w' vs kds := by
              refine kvr_of r.fst ?_
              obtain ⟨t, et⟩ := st.r
              refine VRs.mono' (fun b u e => st.f b u (fm b u e)) (fun i b e => ?_) r.snd
              exact st.ix e
            exact ⟨ok'.sub _ _ fa, p v _ _ (lock_step f0 ar ha st) (ok'.unlock hr' fa r') (vr.less fa)⟩
          · rw [if_neg hz] at p
            exact p.elim
        | err c fs h2 => exact fun p => p.elim
        | stuck => exact fun p => p.elim
    · exact p.elim
  · exact p.elim
/-- its keys as what is walked -/
def mIK (i : Nat) : MI := fun env h => match env[i]? with
  | some (some (.ref j)) => match h[j]? with
    | some (.lok kds) => .ok (kds.map (fun kv => keyV kv.1), fun h => h[j]? = some (.lok kds)) h
    | _ => .stuck
  | _ => .stuck
theorem i_keys [Tbl] {X : Cx} {W : WX} {tg : Expr} {i : Nat} {x : Str} {p : Pos} (hN : X.N[i]? = some x) (hv : Vis X.env.scope x) (hd : (x == ("__debug__" : Str)) = false := by decide) (hcd : (x == ("__classdict__" : Str)) = false := by decide) : PI X tg (.Name x p) (tI X.K X.mg W (mIK i)) :=
  PI.imp (pi_keys (e_var (W := W) hN hv hd hcd)) fun σ H R ⟨w, env, h, ok, er, pp⟩ => by
  unfold mIK at pp
  split at pp
  · next j ej =>
    split at pp
    · next kds hj =>
      refine ⟨w, env, h, ok, er, ?_⟩
      unfold mVar
      rw [ej]
      intro v w' H' st ok' vr
      cases vr with
      | ref hr =>
        next a =>
        obtain ⟨od, vs, fa, e2, e3⟩ := ok'.cel j a _ hr hj
        refine ⟨a, od, rfl, .inl ⟨vs, ok'.sub _ _ fa, ?_⟩⟩
        refine pp (Itk a od vs) w' H' st ok' ⟨fun w => w.F a = some (.frz od (.dK vs)), fa, ?_⟩
        have hlen : vs.length = kds.length := by simpa using congrArg List.length e2
        refine ⟨fun w H w' H' s r => s.f _ _ r, fun w H h i ok r g hi => ⟨ok.sub _ _ r, by rw [List.length_map] at hi; omega⟩, fun w H h ok r g => ⟨ok.sub _ _ r, by rw [List.length_map]; omega⟩, fun w H h i y H' ok r g hi q => ?_⟩
        obtain ⟨rfl, k, v, e4, rfl⟩ := q
        refine yld0 ok ⟨rfl, keyV k, ?_, vr_keyV k⟩
        rw [List.getElem?_map]
        have e5 : (vs.map Prod.fst)[i]? = some k := by rw [List.getElem?_map, e4]; rfl
        rw [e2, List.getElem?_map] at e5
        obtain ⟨kv, e6, e7⟩ := Option.map_eq_some_iff.mp e5
        rw [e6, ← e7]
        rfl
    · exact pp.elim
  · exact pp.elim
/-! ### name = {k: v for ..}, on one line -/
section
variable {X : Cx} {W : WX} {kx vx tg iter : Expr} {ifs : List Expr} {scope : Scope} {own : List (Str × Nat)} {pos spos py : Pos} {s : MI} {g : TG} {mg : MG} {us : List Nat} {c : MT} {k e : ME} {i : Nat} {y : Str}
theorem swd_true {env : PySem.Env} {l : Nat} {gs : List Comprehension} (hk : env.scope.kind = .function) (hy : env.scope.names.lookup y = some .local) (hl : (py.line == pos.line) = true) (ha : (scope.names.any fun (n, k) => n == y && (k == .local || k == .cell)) = false) :
    swapsWith (.DictComp kx vx gs scope pos) (some (.Name y py)) l env = pure true := by
  have kind : env.blockKind = .function := by
    unfold PySem.Env.blockKind
    rw [hk]
    rfl
  have own' : env.kindOf y = some .local := hy
  unfold swapsWith
  simp only [kind, own', ha, Expr.pos, hl]
  rfl
theorem ps_nameDc {wi : TI} {tt : TT} {tk tv : TE} (hc : X.calm = true) (hN : X.N.Nodup) (hy : X.N[i]? = some y) (hyl : X.env.scope.names.lookup y = some .local) (hsw : swapsWith (.DictComp kx vx [⟨tg, iter, ifs, 0⟩] scope pos) (some (.Name y py)) spos.line X.env = pure true)
    (hi : PI X tg iter wi) (ok : BlkOk X.N X.env.scope scope own) (hg : ∀ (s : Shared) (H : Hp) (C : Addr) (cl : List (Str × Addr)) (fp : List Addr), PG (X.blk s H scope (compEnvC scope cl C X.env) fp) tg g)
    (ht : ∀ (s : Shared) (H : Hp) (C : Addr) (cl : List (Str × Addr)) (fp : List Addr), PTs (X.blk s H scope (compEnvC scope cl C X.env) fp) ifs tt) (hk : ∀ (s : Shared) (H : Hp) (C : Addr) (cl : List (Str × Addr)) (fp : List Addr), PE (X.blk s H scope (compEnvC scope cl C X.env) fp) kx tk)
    (he : ∀ (s : Shared) (H : Hp) (C : Addr) (cl : List (Str × Addr)) (fp : List Addr), PE (X.blk s H scope (compEnvC scope cl C X.env) fp) vx tv) (hs : ∀ x, foldedSetIterable iter X.env x = pure x) :
    PS X (.Assign [.Name y py] (.DictComp kx vx [⟨tg, iter, ifs, 0⟩] scope pos) spos) (tAsg (tDc wi g tt tk tv (own.map (·.2))) (gName i)) := by
  refine ⟨fun pins st σ H D I h => ?_⟩
  have h : tDc wi g tt tk tv (own.map (·.2)) σ H (fun x H1 => gName i x σ H1 D.nx) := h
  rw [exec_Assign_Name_used _ _ _ _ hsw]
  refine wpAny_bind (wpAny_standAt (wpAny_bind ?_))
  show wpAny _ X.A (do
    let _ ← comprehension (.DictComp kx vx [⟨tg, iter, ifs, 0⟩] scope pos) scope X.env (firstIterPos [⟨tg, iter, ifs, 0⟩] pos) newDict false (eval iter X.env) (some (assign (.Name y py) X.env))) _ _ st
  refine wpAny_bind (thn (dc_core (Qf := fun _ s' => SP X pins D .next s') hc hN I hi ok hg ht hk he hs h ?_) fun _ s' z => wpAny_pure (wpAny_pure z))
  intro L C s' m H' I' q hn fp
  obtain ⟨f0, f1, f2, f3, f4, f5⟩ := fp
  refine wpAny_assign_Name (store_ok2 (v := V.ref L) I' hN hy (.inl hyl) rfl (fun s2 I2 ⟨a, sb, ha⟩ => ?_) (.inr hyl))
  have ne : C ≠ a := by
    rcases ha with z | z
    · rw [z]
      exact f1
    · exact fun w => f4 y a z w.symm
  exact ⟨m, hn.sameBut sb ne, fun h3 sb3 => ⟨_, H', I2.turned (t' := s2.toks) (fun b o hb z => (sb3.2 b hb).trans z) f0 f1 f3 f4 f5, q⟩⟩
theorem s_setDc [Tbl] (hc : X.calm = true) (hN : X.N.Nodup) (hy : X.N[i]? = some y) (hyl : X.env.scope.names.lookup y = some .local) (hsw : swapsWith (.DictComp kx vx [⟨tg, iter, ifs, 0⟩] scope pos) (some (.Name y py)) spos.line X.env = pure true)
    (ok : BlkOk X.N X.env.scope scope own) (hu : ∀ i ∈ us, i ∈ own.map (·.2)) (hb : TgS X.K g mg us) (hi : PI X tg iter (tI X.K X.mg W s)) (hg : ∀ (s : Shared) (H : Hp) (C : Addr) (cl : List (Str × Addr)) (fp : List Addr), PG (X.blk s H scope (compEnvC scope cl C X.env) fp) tg g)
    (ht : ∀ (s : Shared) (H : Hp) (C : Addr) (cl : List (Str × Addr)) (fp : List Addr), PTs (X.blk s H scope (compEnvC scope cl C X.env) fp) ifs (tT X.K X.mg W0 c)) (hk : ∀ (s : Shared) (H : Hp) (C : Addr) (cl : List (Str × Addr)) (fp : List Addr), PE (X.blk s H scope (compEnvC scope cl C X.env) fp) kx (tE X.K X.mg W0 k))
    (he : ∀ (s : Shared) (H : Hp) (C : Addr) (cl : List (Str × Addr)) (fp : List Addr), PE (X.blk s H scope (compEnvC scope cl C X.env) fp) vx (tE X.K X.mg W0 e)) (hs : ∀ x, foldedSetIterable iter X.env x = pure x := by intro _; rfl) :
    PS X (.Assign [.Name y py] (.DictComp kx vx [⟨tg, iter, ifs, 0⟩] scope pos) spos) (tS X.K X.mg W (mAsg (mDComp s (own.map (·.2)) mg c k e) (gNm i))) :=
  PS.imp (ps_nameDc hc hN hy hyl hsw hi ok hg ht hk he hs) (t_asg (t_dcomp (fun _ _ _ h => h) hb hu (fun _ _ _ h => h) (fun _ _ _ h => h) fun _ _ _ h => h) (g_nm i))
end
end
end Vi

set_option Elab.async false
set_option linter.all false
set_option autoImplicit false
set_option maxRecDepth 100000
set_option maxHeartbeats 2000000
namespace Vi
open PySem PySem.Spec PyProof.Rows L2
open scoped Classical
/-! ### several clauses, with names and without -/
/-- an error that has come down to a try's frame -/
structure Air (X : Cx) (pins : List (Addr × Obj)) (B : Heap) (sI : Shared) (a : Addr) (cv : Value) (d : Option Addr) (σ : L2.St) (H : Hp) (s : Shared) : Prop where
  iv : Inv X pins σ H sI
  gr : ∀ b o, sI.heap.get? b = some o → b ∉ frs X.stack → B.get? b = some o
  up : sI.heap.UpToSlots s.heap
  fl : HandSPX.FlyingZ B (X.env :: X.outer) a (L2N.Zn cv d) s.heap
  fr : H a = none
  os : s.os = sI.os
  ba : AllBare s.gens
section
variable {X : Cx} {pins : List (Addr × Obj)} {B : Heap} {sI s : Shared} {a : Addr} {cv : Value} {d : Option Addr} {σ : L2.St} {H : Hp}
end
/-- clauses do what is wished of an error of a class -/
def Hands (X : Cx) (hds : List ExceptHandler) (W : Ends → WX) : Prop := ∀ (pins : List (Addr × Obj)) (B : Heap) (sI s : Shared) (a : Addr) (cv : Value) (d : Option Addr) (σ : L2.St) (H : Hp) (D : Ends), X.Ok → Air X pins B sI a cv d σ H s → W D cv d σ H →
  wpAny (model X.prog X.w) X.A (handleBy (.ref a) X.env hds) (SP X pins D) X.xe s
section
variable {X : Cx}
end
/-! the mirror: clauses in their order, each with the classes that it catches, its name's place and its suite -/
abbrev Clause := List Str × Nat × (Str → Option (List (Str × D)) → MS)
inductive Cls [Tbl] (X : Cx) (al : List Str) : List ExceptHandler → List Clause → Prop
  | nil : Cls X al [] []
  | skip {x : Str} {nm : Option Str} {os : List Str} {b₀ : Stmt} {suite : List Stmt} {np pos : Pos} {r : List ExceptHandler} {l : List Clause} (hg : Gl X x) (hd : (x == ("__debug__" : Str)) = false) (hc : Cat X.K X.mg x [] os) (ha : ∀ c ∈ al, c ∈ os) (hr : Cls X al r l) :
      Cls X al (.ExceptHandler (some (.Name x np)) nm (b₀ :: suite) pos :: r) l
  | as {x n : Str} {cs os : List Str} {i : Nat} {b₀ : Stmt} {suite : List Stmt} {np pos : Pos} {r : List ExceptHandler} {l : List Clause} {su : Str → Option (List (Str × D)) → MS} (hN : X.N.Nodup) (hi : X.N[i]? = some n) (hln : X.env.kindOf n = some .local) (hg : Gl X x) (hd : (x == ("__debug__" : Str)) = false) (hc : Cat X.K X.mg x cs os) (ha : ∀ c ∈ al, c ∈ cs ∨ c ∈ os)
      (hsu : ∀ c ∈ cs, ∀ (cv : Value) (fs : Option (List (Str × D))) (a : Addr) (oe : Obj) (d : Option Addr) (pn : List (Addr × Obj)), X.mg c = some cv → L2N.Zn cv d oe → (∃ vs, oe.data = .fields vs) → SPSs X a oe pn d i fs (b₀ :: suite) (su c fs)) (hr : Cls X al r l) :
      Cls X al (.ExceptHandler (some (.Name x np)) (some n) (b₀ :: suite) pos :: r) ((cs, i, su) :: l)
  | no {x : Str} {cs os : List Str} {i : Nat} {b₀ : Stmt} {suite : List Stmt} {np pos : Pos} {r : List ExceptHandler} {l : List Clause} {su : MS} (hg : Gl X x) (hd : (x == ("__debug__" : Str)) = false) (hc : Cat X.K X.mg x cs os) (ha : ∀ c ∈ al, c ∈ cs ∨ c ∈ os)
      (hsu : ∀ (a : Addr) (oe : Obj) (cv : Value) (d : Option Addr) (pn : List (Addr × Obj)), L2N.Zn cv d oe → (∃ vs, oe.data = .fields vs) → PSs (X.suite a ((a, oe) :: pn)) (b₀ :: suite) (tS X.K X.mg W0 su)) (hr : Cls X al r l) :
      Cls X al (.ExceptHandler (some (.Name x np)) none (b₀ :: suite) pos :: r) ((cs, i, fun _ _ => su) :: l)
theorem Hands.imp {X : Cx} {hds : List ExceptHandler} {W W' : Ends → WX} (hh : Hands X hds W) (i : ∀ D cv d σ H, W' D cv d σ H → W D cv d σ H) : Hands X hds W' := fun pins B sI s a cv d σ H D ok A w => hh pins B sI s a cv d σ H D ok A (i _ _ _ _ _ w)
end Vi

set_option Elab.async false
set_option linter.all false
set_option autoImplicit false
set_option maxRecDepth 100000
set_option maxHeartbeats 2000000
namespace Vi
open PySem PySem.Spec PyProof.Rows L2
open scoped Classical
/-! ### the steps of a try with several clauses -/
section
variable {Q : Ps} {h : Hap} {env : Env}
end
end Vi

set_option Elab.async false
set_option linter.all false
set_option autoImplicit false
set_option maxRecDepth 100000
set_option maxHeartbeats 2000000
namespace Vi
open PySem PySem.Spec PyProof.Rows L2
open scoped Classical
noncomputable section
/-! ### a dict that is walked, wherever it stands -/
def gVr (i : Nat) : Env → Hap → Option Nat := fun env _ => match env[i]? with
  | some (some (.ref j)) => some j
  | _ => none
def mLokG (g : Env → Hap → Option Nat) (m : ME) : ME := fun env h => match g env h with
  | some j => match h[j]? with
    | some (.dct kds) => match m env (h.set j (.lok kds)) with
      | .ok d h2 => if h2[j]? = some (.lok kds) then .ok d (h2.set j (.dct kds)) else .stuck
      | _ => .stuck
    | _ => .stuck
  | none => .stuck
/-- a statement in which it is walked -/
def mLokS (g : Env → Hap → Option Nat) (m : MS) : MS := fun env h => match g env h with
  | some j => match h[j]? with
    | some (.dct kds) => match m env (h.set j (.lok kds)) with
      | .nx e h2 => if h2[j]? = some (.lok kds) then .nx e (h2.set j (.dct kds)) else .stuck
      | .bk e h2 => if h2[j]? = some (.lok kds) then .bk e (h2.set j (.dct kds)) else .stuck
      | .ct e h2 => if h2[j]? = some (.lok kds) then .ct e (h2.set j (.dct kds)) else .stuck
      | .rt d h2 => if h2[j]? = some (.lok kds) then .rt d (h2.set j (.dct kds)) else .stuck
      | _ => .stuck
    | _ => .stuck
  | none => .stuck
theorem EnvR.less {K : PySem.W.Frag} {w : Wd} {σ : L2.St} {env : Env} {a : Addr} {od : Obj} {vs : List (Key × V)} (fa : w.F a = some (.frz od (.dK vs))) (er : EnvR K w σ env) : EnvR K ⟨delF w.F a, w.ρ⟩ σ env := ⟨er.len, fun i d e => by
  obtain ⟨v, z1, z2⟩ := er.get i d e
  exact ⟨v, z1, z2.less fa⟩⟩
/-- what a lock needs, and what it gives back -/
theorem lock_of [Tbl] {K : PySem.W.Frag} {w : Wd} {H : Hp} {h : Hap} {j : Nat} {kds : List (Key × D)} (ok : Ok K w H h) (hj : h[j]? = some (.dct kds)) : ∃ a vs, H a = some (.dK vs) ∧ ∀ od, ∃ w1, Ok K w1 (upd H a (.frz od (.dK vs))) (h.set j (.lok kds)) ∧ (∀ σ env, EnvR K w σ env → EnvR K w1 σ env) ∧
    ∀ w' H' h2, Step w1 (upd H a (.frz od (.dK vs))) w' H' → Ok K w' H' h2 → H' a = some (.frz od (.dK vs)) ∧ w'.F a = some (.frz od (.dK vs)) ∧ Step w H ⟨delF w'.F a, w'.ρ⟩ (upd H' a (.dK vs)) ∧ Ok K ⟨delF w'.F a, w'.ρ⟩ (upd H' a (.dK vs)) (h2.set j (.dct kds)) := by
  have hl : j < w.ρ.length := by rw [ok.len]; exact (List.getElem?_eq_some_iff.mp hj).1
  have hr : w.ρ[j]? = some w.ρ[j] := List.getElem?_eq_getElem hl
  generalize w.ρ[j] = a at hr
  obtain ⟨a', j', vs, e1, e2, _, _, ha, r⟩ := getD_ok (ds := kds) ok (VR.ref hr) (by unfold getD; dsimp only; rw [hj])
  cases e1
  have f0 : w.F a = none := (ok.cel j a _ hr hj).1
  have ar : a ∈ w.ρ := List.mem_of_getElem? hr
  refine ⟨a, vs, ha, fun od => ?_⟩
  obtain ⟨ok1, fm⟩ := ok.lock (od := od) hr hj ha r
  refine ⟨_, ok1, fun σ env er => ⟨er.len, fun i d e => ?_⟩, fun w' H' h2 st ok' => ?_⟩
  · obtain ⟨v, z1, z2⟩ := er.get i d e
    exact ⟨v, z1, VR.mono' (w := w) (w' := ⟨upd w.F a (.frz od (.dK vs)), w.ρ⟩) fm (fun _ _ e => e) z2⟩
  · have fa : w'.F a = some (.frz od (.dK vs)) := st.f _ _ upd_same
    have hr' : w'.ρ[j]? = some a := st.ix hr
    have r' : KVR K w' vs kds := by
      refine kvr_of r.fst ?_
      refine VRs.mono' (fun b u e => st.f b u (fm b u e)) (fun i b e => ?_) r.snd
      exact st.ix e
    exact ⟨ok'.sub _ _ fa, fa, lock_step f0 ar ha st, ok'.unlock hr' fa r'⟩
section
variable {X : Cx} {W : WX} {g : Env → Hap → Option Nat}
theorem e_lokG [Tbl] {e : Expr} {m : ME} (he : PE X e (tE X.K X.mg W m)) : PE X e (tE X.K X.mg W (mLokG g m)) := PE.imp (pe_lock he) fun σ H Q ⟨w, env, h, ok, er, p⟩ => by
  unfold mLokG at p
  split at p
  · next j ej =>
    split at p
    · next kds hj =>
      obtain ⟨a, vs, ha, L⟩ := lock_of ok hj
      refine ⟨a, .dK vs, ha, trivial, fun od => ?_⟩
      obtain ⟨w1, ok1, ee, back⟩ := L od
      refine ⟨w1, env, _, ok1, ee _ _ er, ?_⟩
      revert p
      cases m env (h.set j (.lok kds)) with
      | ok d h2 =>
        intro p v w' H' st ok' vr
        have p : Post X.K X.mg (VR X.K) w H (if h2[j]? = some (.lok kds) then .ok d (h2.set j (.dct kds)) else .stuck) Q fun c d H' => W c d σ H' := p
        by_cases hz : h2[j]? = some (.lok kds)
        · rw [if_pos hz] at p
          obtain ⟨b1, b2, b3, b4⟩ := back w' H' h2 st ok'
          exact ⟨b1, p v _ _ b3 b4 (vr.less b2)⟩
        · rw [if_neg hz] at p
          exact p.elim
      | err c fs h2 => exact fun p => p.elim
      | stuck => exact fun p => p.elim
    · exact p.elim
  · exact p.elim
theorem s_lokG [Tbl] {st : Stmt} {m : MS} (hs : PS X st (tS X.K X.mg W m)) : PS X st (tS X.K X.mg W (mLokS g m)) := PS.imp (ps_lock hs) fun D σ H ⟨w, env, h, ok, er, p⟩ => by
  unfold mLokS at p
  split at p
  · next j ej =>
    split at p
    · next kds hj =>
      obtain ⟨a, vs, ha, L⟩ := lock_of ok hj
      refine ⟨a, .dK vs, ha, trivial, fun od => ?_⟩
      obtain ⟨w1, ok1, ee, back⟩ := L od
      refine ⟨w1, env, _, ok1, ee _ _ er, ?_⟩
      revert p
      cases m env (h.set j (.lok kds)) with
      | nx e h2 =>
        intro p τ w' H' st ok' er'
        have p : PostS X.K X.mg w H (if h2[j]? = some (.lok kds) then .nx e (h2.set j (.dct kds)) else .stuck) D W := p
        by_cases hz : h2[j]? = some (.lok kds)
        · rw [if_pos hz] at p
          obtain ⟨b1, b2, b3, b4⟩ := back w' H' h2 st ok'
          exact ⟨b1, p τ _ _ b3 b4 (er'.less b2)⟩
        · rw [if_neg hz] at p
          exact p.elim
      | bk e h2 =>
        intro p τ w' H' st ok' er'
        have p : PostS X.K X.mg w H (if h2[j]? = some (.lok kds) then .bk e (h2.set j (.dct kds)) else .stuck) D W := p
        by_cases hz : h2[j]? = some (.lok kds)
        · rw [if_pos hz] at p
          obtain ⟨b1, b2, b3, b4⟩ := back w' H' h2 st ok'
          exact ⟨b1, p τ _ _ b3 b4 (er'.less b2)⟩
        · rw [if_neg hz] at p
          exact p.elim
      | ct e h2 =>
        intro p τ w' H' st ok' er'
        have p : PostS X.K X.mg w H (if h2[j]? = some (.lok kds) then .ct e (h2.set j (.dct kds)) else .stuck) D W := p
        by_cases hz : h2[j]? = some (.lok kds)
        · rw [if_pos hz] at p
          obtain ⟨b1, b2, b3, b4⟩ := back w' H' h2 st ok'
          exact ⟨b1, p τ _ _ b3 b4 (er'.less b2)⟩
        · rw [if_neg hz] at p
          exact p.elim
      | rt d h2 =>
        intro p v w' H' st ok' vr
        have p : PostS X.K X.mg w H (if h2[j]? = some (.lok kds) then .rt d (h2.set j (.dct kds)) else .stuck) D W := p
        by_cases hz : h2[j]? = some (.lok kds)
        · rw [if_pos hz] at p
          obtain ⟨b1, b2, b3, b4⟩ := back w' H' h2 st ok'
          exact ⟨b1, p v _ _ b3 b4 (vr.less b2)⟩
        · rw [if_neg hz] at p
          exact p.elim
      | er c fs e h2 => exact fun p => p.elim
      | stuck => exact fun p => p.elim
    · exact p.elim
  · exact p.elim
/-! its keys, values and items as what is walked -/
def mIW (f : Key × D → D) (o : ME) : MI := fun env h => (o env h).bind fun d h1 => match d with
  | .ref j => match h1[j]? with
    | some (.lok kds) => .ok (kds.map f, fun h => h[j]? = some (.lok kds)) h1
    | _ => .stuck
  | _ => .stuck
abbrev mIKy (o : ME) : MI := mIW (fun kv => keyV kv.1) o
/-- a walk over a locked dict -/
theorem walk_of [Tbl] {m : ME} {f : Key × D → D} {J : Addr → Obj → List (Key × V) → It}
    (go : ∀ a od vs i H, H a = some (.frz od (.dK vs)) → i < vs.length → (J a od vs).go i H) (stop : ∀ a od vs i H, H a = some (.frz od (.dK vs)) → vs.length ≤ i → (J a od vs).stop i H)
    (yld : ∀ a od vs i y (w : Wd) (H H' : Hp) (h : Hap), Ok X.K w H h → (J a od vs).yld i H y H' → ∃ k v, vs[i]? = some (k, v) ∧ ∀ d, VR X.K w v d → ∃ w', Step w H w' H' ∧ Ok X.K w' H' h ∧ VR X.K w' y (f (k, d)))
    {σ : L2.St} {H : Hp} {R : It → Hp → Prop} (p : tI X.K X.mg W (mIW f m) σ H R) : tE X.K X.mg W m σ H fun x H1 => ∃ d o kvs, x = .ref d ∧ H1 d = some (.frz o (.dK kvs)) ∧ R (J d o kvs) H1 := by
  obtain ⟨w, env, h, ok, er, p⟩ := p
  refine ⟨w, env, h, ok, er, Post.bind p fun x da w1 H1 h1 s1 ok1 v1 p1 => ?_⟩
  split at p1
  · next j =>
    split at p1
    · next kds hj =>
      cases v1 with
      | ref hr =>
        next a =>
        obtain ⟨od, vs, fa, e2, e3⟩ := ok1.cel j a _ hr hj
        refine ⟨a, od, vs, rfl, ok1.sub _ _ fa, ?_⟩
        have len : ∀ {us : List (Key × V)}, us.map Prod.fst = kds.map Prod.fst → us.length = kds.length := fun e => by simpa using congrArg List.length e
        refine p1 (J a od vs) w1 H1 (Step.refl _ _) ok1 ⟨fun w => w.F a = some (.frz od (.dK vs)) ∧ w.ρ[j]? = some a, ⟨fa, hr⟩, ?_⟩
        refine ⟨fun w H w' H' s r => ⟨s.f _ _ r.1, s.ix r.2⟩, fun w H h i ok r g hi => go a od vs i H (ok.sub _ _ r.1) (by rw [List.length_map] at hi; rw [len e2]; exact hi), fun w H h ok r g => stop a od vs _ H (ok.sub _ _ r.1) (by rw [List.length_map, len e2]; exact Nat.le_refl _), fun w H h i y H' ok r g hi q => ?_⟩
        obtain ⟨od', vs', fa', e2', e3'⟩ := ok.cel j a _ r.2 g
        have same : od' = od ∧ vs' = vs := by
          have := r.1.symm.trans fa'
          injection this with this
          injection this with h1 h2
          injection h2 with h2
          exact ⟨h1.symm, h2.symm⟩
        obtain ⟨rfl, rfl⟩ := same
        obtain ⟨k, v, e4, nx⟩ := yld a od' vs' i y w H H' h ok q
        have e5 : (vs'.map Prod.snd)[i]? = some v := by rw [List.getElem?_map, e4]; rfl
        obtain ⟨d, e6, e7⟩ := e3'.get e5
        obtain ⟨w', st, ok', vr⟩ := nx d e7
        refine ⟨w', st, ok', f (k, d), ?_, vr⟩
        have e8 : (kds.map Prod.fst)[i]? = some k := by rw [← e2', List.getElem?_map, e4]; rfl
        rw [List.getElem?_map] at e6 e8 ⊢
        obtain ⟨kv, z1, z2⟩ := Option.map_eq_some_iff.mp e8
        rw [z1] at e6 ⊢
        have z3 : kv.2 = d := by simpa using e6
        rw [Option.map_some, ← z2, ← z3]
    · exact p1.elim
  · exact p1.elim
theorem i_keysE [Tbl] {tg e : Expr} {m : ME} (he : PE X e (tE X.K X.mg W m)) : PI X tg e (tI X.K X.mg W (mIKy m)) := PI.imp (pi_keys he) fun σ H R p => by
  obtain ⟨w, env, h, ok, er, q⟩ := walk_of (J := Itk) (fun a od vs i H e l => ⟨e, l⟩) (fun a od vs i H e l => ⟨e, l⟩) (fun a od vs i y w H H' h ok q => by
    obtain ⟨rfl, k, v, e4, rfl⟩ := q
    exact ⟨k, v, e4, fun d _ => ⟨w, Step.refl _ _, ok, vr_keyV k⟩⟩) p
  refine ⟨w, env, h, ok, er, ?_⟩
  revert q
  cases m env h with
  | ok a h1 =>
    intro q v w' H' s ok' vr
    obtain ⟨d, o, kvs, e1, e2, e3⟩ := q v w' H' s ok' vr
    exact ⟨d, o, e1, .inl ⟨kvs, e2, e3⟩⟩
  | err => exact fun q => q
  | stuck => exact fun q => q
end
/-! ### o.f += n, max(i, j) -/
end
end Vi

set_option Elab.async false
set_option linter.all false
set_option autoImplicit false
set_option maxRecDepth 100000
set_option maxHeartbeats 2000000
namespace Vi
open PySem PySem.Spec PyProof.Rows L2
open scoped Classical
noncomputable section
/-! ### min(i, j), text.index(text) -/
theorem bl_min : bootBuiltins "min" = some (.builtin "min") := by decide +kernel
/-! ### list.remove(int), the int in the list -/
/-! ### list.count(int), list.index(text) -/
/-! ### more of suites: a[b], int(..) and its like -/
section
variable {X : Cx} {a : Addr} {oe : Obj} {pn : List (Addr × Obj)} {d : Option Addr} {i : Nat} {fs : Option (List (Str × D))}
end
/-! ### y in d where y may be None -/
end
end Vi

set_option Elab.async false
set_option linter.all false
set_option autoImplicit false
set_option maxRecDepth 100000
set_option maxHeartbeats 2000000
namespace Vi
open PySem PySem.Spec PyProof.Rows L2
open scoped Classical
/-! ### list.remove(text), the text in the list -/
end Vi

set_option Elab.async false
set_option linter.all false
set_option autoImplicit false
set_option maxRecDepth 100000
set_option maxHeartbeats 2000000
namespace Vi
open PySem PySem.Spec PyProof.Rows L2
open scoped Classical
/-! ### text.replace(written, written), behind a written text in a list -/
section
variable {X : Cx} {W : WX}
theorem PET.imp {e : Expr} {t t' : TE} (p : PET X e t) (i : ∀ σ H Q, t' σ H Q → t σ H Q) : PET X e t' := fun pn sh σ H Q h0 I q => p pn sh σ H Q h0 I (i _ _ _ q)
theorem PAT.imp {es : List Expr} {t t' : TA} (p : PAT X es t) (i : ∀ σ H Q, t' σ H Q → t σ H Q) : PAT X es t' := fun ps pn sh σ H Q h0 I q => p ps pn sh σ H Q h0 I (i _ _ _ q)
end
/-! ### a, b = a list -/
end Vi

set_option Elab.async false
set_option linter.all false
set_option autoImplicit false
set_option maxRecDepth 100000
set_option maxHeartbeats 2000000
namespace Vi
open PySem PySem.Spec PyProof.Rows L2
open scoped Classical
/-! ### d[k] += n -/
/-! ### {k: v, ..}, the keys texts -/
def mLs : List ME → MA
  | [] => mNil
  | m :: r => mCons m (mLs r)
def mDisp (ks : List Str) (ms : List ME) : ME := fun env h => (mLs ms env (h ++ [.dct []])).bind fun ds h2 => match h2[h.length]? with
  | some (.dct []) => if ds.length = ks.length ∧ ks.length ≤ 15 then .ok (.ref h.length) (h2.set h.length (.dct ((ks.zip ds).foldl (fun acc kv => putD acc (.inr kv.1) kv.2) []))) else .stuck
  | _ => .stuck
section
variable {gm : Str → Option Value} {X : Cx} {W : WX}
theorem Post.since [Tbl] {α β : Type} {K : PySem.W.Frag} {VA : Wd → β → α → Prop} {w w0 : Wd} {H H0 : Hp} {r : Rs α} {Q : β → Hp → Prop} {E : XK} (p : Post K gm VA w H r Q E) (s : Step w H w0 H0) : Post K gm VA w0 H0 r Q E := by
  cases r with
  | ok a h => exact fun v w' H' s' => p v w' H' (s.trans s')
  | err c fs h => exact fun cv d w' H' hc s' => p cv d w' H' hc (s.trans s')
  | stuck => exact p
theorem t_pairs [Tbl] {K : PySem.W.Frag} : ∀ (ks : List Str) (ms : List ME), ks.length = ms.length → ∀ (σ : L2.St) (H : Hp) (R : List (V × V) → Hp → Prop),
    tA K gm W (mLs ms) σ H (fun vs H' => R ((ks.map V.str).zip vs) H') → tPairs (List.zipWith (fun k m => (tC (V.str k), tE K gm W m)) ks ms) σ H R
  | [], [], _, σ, H, R, ⟨w, env, h, ok, er, p⟩ => by
    have z := (show Post K gm (VRs K) w H (mNil env h) _ _ from p).ok ok VRs.nil
    exact z
  | k :: ks, m :: ms, hl, σ, H, R, ⟨w, env, h, ok, er, p⟩ => ⟨w, env, h, ok, er, Post.bind (show Post K gm (VRs K) w H (mCons m (mLs ms) env h) _ _ from p) fun x da w1 H1 h1 s1 ok1 v1 p1 => t_pairs ks ms (by simpa using hl) σ H1 _ ⟨w1, env, h1, ok1, er.mono s1, Post.bind p1 fun xs ds w2 H2 h2 s2 ok2 v2 p2 => by have z := p2.ok ok2 (VRs.cons (v1.mono s2) v2); exact z⟩⟩
theorem kvr_fold [Tbl] {K : PySem.W.Frag} {w : Wd} : ∀ (ks : List Str) {vs : List V} {ds : List D} {kvs : List (Key × V)} {kds : List (Key × D)}, VRs K w vs ds → KVR K w kvs kds →
    KVR K w (mergeK kvs ((ks.zip vs).map fun kv => ((.inr kv.1 : Key), kv.2))) ((ks.zip ds).foldl (fun acc kv => putD acc (.inr kv.1) kv.2) kds)
  | [], _, _, _, _, _, r => r
  | _ :: _, _, _, _, _, .nil, r => r
  | k :: ks, _, _, _, _, .cons a b, r => kvr_fold ks b (r.put a (.inr k))
theorem zip_key : ∀ (ks : List Str) (vs : List V), (ks.map V.str).zip vs = ((ks.zip vs).map fun kv => ((.inr kv.1 : Key), kv.2)).map fun kv => (kV kv.1, kv.2)
  | [], _ => rfl
  | _ :: _, [] => rfl
  | k :: ks, v :: vs => by
    rw [List.map_cons, List.zip_cons_cons, List.zip_cons_cons, List.map_cons, List.map_cons, zip_key ks vs]
    rfl
theorem e_disp [Tbl] {pos : Pos} {keys : List (Option Expr)} {values : List Expr} (ks : List Str) (ms : List ME) (h : PPs X pos keys values (List.zipWith (fun k m => (tC (V.str k), tE X.K X.mg W m)) ks ms)) (hkm : ks.length = ms.length) (hall : keys.all (·.isSome) = true) (hl : keys.length = values.length) (h0 : keys ≠ [])
    (h15 : keys.length ≤ 15) : PE X (.Dict keys values pos) (tE X.K X.mg W (mDisp ks ms)) := PE.imp (pe_disp h hall hl h0 h15) fun σ H Q ⟨w, env, h, ok, er, p⟩ pa ha => by
  have q := ok.cell (c := .dct []) (o := .dK []) ha ⟨rfl, .nil⟩
  have hr : (w.ρ ++ [pa])[h.length]? = some pa := by
    rw [← ok.len, List.getElem?_append_right (Nat.le_refl _), Nat.sub_self]
    rfl
  refine t_pairs ks ms hkm σ _ _ ⟨_, env, _, q.1, er.mono q.2, Post.bind (Post.since p q.2) fun vs ds w2 H2 h2 s2 ok2 v2 p2 => ?_⟩
  cases e1 : h2[h.length]? with
  | none => rw [e1] at p2; exact p2.elim
  | some c =>
    rw [e1] at p2
    cases c with
    | dct kds =>
      cases kds with
      | nil =>
        simp only [] at p2
        by_cases hd : ds.length = ks.length ∧ ks.length ≤ 15
        · have p3 : Post X.K X.mg (VR X.K) w2 H2 (.ok (.ref h.length) (h2.set h.length (.dct ((ks.zip ds).foldl (fun acc kv => putD acc (.inr kv.1) kv.2) [])))) Q (fun c d H' => W c d σ H') := by
            simp only [if_pos hd] at p2
            exact p2
          have hi := s2.ix hr
          obtain ⟨_, o, e2, e3⟩ := ok2.cel h.length pa _ hi e1
          cases o <;> simp [CRel] at e3
          next vs0 =>
          have hv : vs0 = [] := by
            have := congrArg List.length e3.1
            simpa using this
          subst hv
          have hlen : vs.length = ks.length := by rw [v2.length]; exact hd.1
          refine ⟨e2, (ks.zip vs).map fun kv => ((.inr kv.1 : Key), kv.2), ?_, by rw [List.length_map, List.length_zip, hlen]; omega, ?_⟩
          · exact zip_key ks vs
          · have zz := ok2.dwrite (by rw [e1]; exact fun _ z => nomatch z) hi (kvr_fold ks v2 KVR.nil)
            exact p3 _ w2 _ zz.2 zz.1 (.ref hi)
        · simp only [if_neg hd] at p2
          exact p2.elim
      | cons _ _ => exact p2.elim
    | lst _ => exact p2.elim
    | ins _ _ => exact p2.elim
    | lok _ => exact p2.elim
end
end Vi

set_option Elab.async false
set_option linter.all false
set_option autoImplicit false
set_option maxRecDepth 100000
set_option maxHeartbeats 2000000
namespace Vi
open PySem PySem.Spec PyProof.Rows L2
open scoped Classical
/-! ### list.count(text) -/
def rCntT (K : PySem.W.Frag) : V → List V → Hp → VK → Prop := fun o zs H R => ∃ (p : Addr) (ys : List Str) (k : Str), o = .ref p ∧ zs = [.str k] ∧ SqL K H p (ys.map V.str) ∧ R (.int (ys.count k : Nat)) H
theorem cnt_txt {k : Str} : ∀ {us : List Value} {ys : List Str}, StrsAre us ys → us.countP (isStrOf k) = ys.count k
  | _, _, .nil => rfl
  | _, _, .cons n t r => by
    have e := cnt_txt (k := k) r
    rw [List.countP_cons, List.count_cons, e]
    rfl
theorem mt_cntT {X : Cx} : MtR X "list.count" (rCntT X.K) := by
  intro pn sh σ H o zs vo vz R I ro rz q
  obtain ⟨p, ys, k, rfl, rfl, hq, q⟩ := q
  cases ro
  obtain ⟨u, rfl, ru⟩ := rz.one
  obtain ⟨t, rfl⟩ := ru
  obtain ⟨vs, rv, ⟨⟨c0, d0, dt, slt⟩, m, hget, hcl, hdt, hdd⟩, _⟩ := I.list hq
  simp only at hcl hdd
  subst hcl
  subst hdd
  have ha := strs_of_vals rv
  have ec : vs.toArray.toList.countP (isStrOf k) = ys.count k := cnt_txt ha
  refine call_meets PySem.F.slot_list_count ⟨_, hget, rfl⟩ PySem.F.entry_list_count (PySem.F.args_list_count_2 _ _) (SeqAt.list_countAt p vs.toArray m d0 slt (.str k t) (isStrOf k))
    ⟨hget, fun y my => (eq_isStrOf k t ha y (by simpa using my)).at _ _, .int (ys.count k : Nat), H, I.tok _, ⟨sh.toks, ?_⟩, q⟩
  show Value.int ((vs.toArray.toList.countP (isStrOf k) : Nat) : Int) sh.toks = .int ((ys.count k : Nat) : Int) sh.toks
  rw [ec]
def dCntT : D → List D → Hap → Option D := fun a ds h => match ds with
  | [.str k] => (getL a h).bind fun xs => (strsOf xs).map fun ys => .int (ys.count k : Nat)
  | _ => none
theorem s_cntT [Tbl] {K : PySem.W.Frag} : PMetS K (rCntT K) dCntT := by
  intro w H h x xs a ds d Q ok r1 r2 e q
  unfold dCntT at e
  split at e
  · obtain ⟨us, e1, e2⟩ := Option.bind_eq_some_iff.mp e
    obtain ⟨ys, e3, rfl⟩ := Option.map_eq_some_iff.mp e2
    obtain ⟨p, vs, rfl, sq, r⟩ := getL_ok ok r1 e1
    obtain ⟨y, rfl, r3⟩ := vrs1 r2
    cases r3
    have := strsOf_is e3
    subst this
    have := VRs.strs r
    subst this
    exact ⟨p, ys, _, rfl, rfl, sq, q _ _ _ (Step.refl _ _) ok (.int _)⟩
  · cases e
/-! ### d[k], d perhaps walked -/
def getDL (d : D) (h : Hap) : Option (List (Key × D)) := match d with
  | .ref i => match h[i]? with
    | some (.dct kvs) => some kvs
    | some (.lok kvs) => some kvs
    | _ => none
  | _ => none
theorem getDL_ok [Tbl] {K : PySem.W.Frag} {w : Wd} {H : Hp} {h : Hap} {x : V} {d : D} {ds : List (Key × D)} (ok : Ok K w H h) (r : VR K w x d) (e : getDL d h = some ds) : ∃ a vs, x = .ref a ∧ Rd H a (.dK vs) ∧ KVR K w vs ds := by
  cases r <;> simp [getDL] at e
  next a i e1 =>
  split at e
  · next xs e2 =>
    cases e
    obtain ⟨_, o, e3, e4⟩ := ok.cel i a _ e1 e2
    cases o <;> simp [CRel] at e4
    next vs => exact ⟨a, vs, rfl, .inl e3, kvr_of e4.1 e4.2⟩
  · next xs e2 =>
    cases e
    obtain ⟨od, vs, e3, e4, e5⟩ := ok.cel i a _ e1 e2
    exact ⟨a, vs, rfl, .inr ⟨od, ok.sub _ _ e3⟩, kvr_of e4 e5⟩
  · cases e
def dDGetL : D → D → Hap → Option D := fun a b h => match getDL a h, keyD b with
  | some kvs, some k => valD kvs k
  | _, _ => none
theorem s_dgetL [Tbl] {K : PySem.W.Frag} : OpS K rDGet dDGetL := by
  intro w H h x y a b d Q ok vx vy e q
  unfold dDGetL at e
  split at e
  · next kvs k e1 e2 =>
    obtain ⟨p, vs, rfl, h3, r⟩ := getDL_ok ok vx e1
    have q1 := keyD_ok vy e2
    subst q1
    rcases r.val k with ⟨z1, z2⟩ | ⟨v, d2, z1, z2, z3⟩
    · rw [e] at z2; cases z2
    · rw [e] at z2
      cases z2
      exact ⟨p, v, rfl, .inl ⟨vs, k, h3, rfl, z1.symm⟩, q _ _ _ (Step.refl _ _) ok z3⟩
  · cases e
theorem e_dgetL [Tbl] {X : Cx} {W : WX} {o i : Expr} {mo mi : ME} {pos : Pos} (hu : X.A.units + 64 < cLine) (ho : PE X o (tE X.K X.mg W mo)) (hi : PE X i (tE X.K X.mg W mi)) (hs : NoSl i) : PE X (.Subscript o i pos) (tE X.K X.mg W (mBin dDGetL mo mi)) :=
  PE.imp (pe_dget (by omega) ho hi hs) (t_bin s_dgetL)
end Vi

set_option Elab.async false
set_option linter.all false
set_option autoImplicit false
set_option maxRecDepth 100000
set_option maxHeartbeats 2000000
namespace Vi
open PySem PySem.Spec PyProof.Rows L2
open scoped Classical
/-! ### enumerate, zip, of lists -/
def zpD (xs ys : List D) : List D := (xs.zip ys).map fun p => .tup [p.1, p.2]
def mZp (a : MA) : MI := fun env h => (a env h).bind fun ds h1 => match ds with
  | [d, e] => match getL d h1, getL e h1 with
    | some xs, some ys => .ok (zpD xs ys, fun h => getL d h = some xs ∧ getL e h = some ys) h1
    | _, _ => .stuck
  | _ => .stuck
theorem zp_len (xs ys : List D) : (zpD xs ys).length = min xs.length ys.length := by unfold zpD; rw [List.length_map, List.length_zip]
theorem zp_at {xs ys : List D} {i : Nat} {d e : D} (h1 : xs[i]? = some d) (h2 : ys[i]? = some e) : (zpD xs ys)[i]? = some (.tup [d, e]) := by
  unfold zpD
  have e1 : (xs.zip ys)[i]? = some (d, e) := List.getElem?_zip_eq_some.mpr ⟨h1, h2⟩
  rw [List.getElem?_map, e1]
  rfl
theorem wk_zip [Tbl] {K : PySem.W.Frag} {a b : Addr} {d e : D} {xs ys : List D} : Wk K (Itz K a b) (zpD xs ys) (fun w => VR K w (.ref a) d ∧ VR K w (.ref b) e) (fun h => getL d h = some xs ∧ getL e h = some ys) where
  up := fun w H w' H' s r => ⟨r.1.mono s, r.2.mono s⟩
  goes := fun w H h i ok r g hi => by
    obtain ⟨_, vs, z, h1, r1⟩ := getL_ok ok r.1 g.1
    cases z
    obtain ⟨_, us, z, h2, r2⟩ := getL_ok ok r.2 g.2
    cases z
    rw [zp_len] at hi
    have l1 := r1.length
    have l2 := r2.length
    have i1 : i < vs.length := by omega
    have i2 : i < us.length := by omega
    exact ⟨vs, us, vs[i], us[i], h1, h2, by simp [i1], by simp [i2]⟩
  stops := fun w H h ok r g => by
    obtain ⟨_, vs, z, h1, r1⟩ := getL_ok ok r.1 g.1
    cases z
    obtain ⟨_, us, z, h2, r2⟩ := getL_ok ok r.2 g.2
    cases z
    have l1 := r1.length
    have l2 := r2.length
    refine ⟨vs, us, h1, h2, ?_⟩
    rw [zp_len]
    omega
  yields := fun w H h i y H' ok r g hi q => by
    obtain ⟨_, vs, z, h1, r1⟩ := getL_ok ok r.1 g.1
    cases z
    obtain ⟨_, us, z, h2, r2⟩ := getL_ok ok r.2 g.2
    cases z
    obtain ⟨T, x, u, rfl, hT, rfl, hx, hu⟩ := q
    obtain ⟨d1, e1, e2⟩ := r1.get (hx vs h1)
    obtain ⟨d2, e3, e4⟩ := r2.get (hu us h2)
    exact ⟨_, (ok.alloc hT).2, (ok.alloc hT).1, _, zp_at e1 e3, vr_tup ok hT (.cons e2 (.cons e4 .nil))⟩
section
variable {X : Cx} {W : WX} {a b : Expr} {p pos tpos : Pos} {elts : List Expr} {kk : Nat} {m : MA}
theorem i_zip [Tbl] (hm : X.mg "zip" = none) (hg : Gl X "zip") (ha : PA X [a, b] (tA X.K X.mg W m)) (hs : starEach [a, b] X.env = (false, eval a X.env) :: starEach [b] X.env := by rfl) (hpl : (backTo pos (starEach [b] X.env)).any (·.1) = false := by rfl) : PI X (.Tuple elts kk tpos) (.Call (.Name "zip" p) [a, b] [] pos) (tI X.K X.mg W (mZp m)) :=
  PI.imp (pi_zip hg hm ha hs hpl) fun σ H Q ⟨w, env, h, ok, er, p⟩ => ⟨w, env, h, ok, er, Post.bind p fun vs ds w' H' h' s ok' vr p' => by
    split at p'
    · next d e =>
      obtain ⟨x, y, rfl, r1, r2⟩ := vrs2 vr
      split at p'
      · next xs ys e1 e2 =>
        obtain ⟨a, us, rfl, q1, q2⟩ := getL_ok ok' r1 e1
        obtain ⟨b, ts, rfl, q3, q4⟩ := getL_ok ok' r2 e2
        exact ⟨a, b, us, ts, rfl, q1, q3, p'.ok ok' ⟨_, ⟨r1, r2⟩, wk_zip⟩⟩
      · exact p'.elim
    · exact p'.elim⟩
end
end Vi

set_option Elab.async false
set_option linter.all false
set_option autoImplicit false
set_option maxRecDepth 100000
set_option maxHeartbeats 3200000
namespace Vi
open PySem PySem.Spec PyProof.Rows L2
open scoped Classical
/-! ### len(set(texts)) -/
section
variable {pg : Program} {ww : World} {ar : Around} {Rr : Result → Shared → Prop} {it : Addr} {fp wr : List Addr} {gg : Array GenState → Array GenState → Prop} {n : Nat} {Pv : Nat → Value → Prop} {Sx : Nat → Shared → Prop}
end
section
variable {pg : Program} {ww : World} {ar : Around} {Er : Value → Shared → Prop} {z : Shared}
end
section
variable {X : Cx} {W : WX}
end
end Vi

set_option Elab.async false
set_option linter.all false
set_option autoImplicit false
set_option maxRecDepth 100000
set_option maxHeartbeats 2000000
namespace Vi
open PySem PySem.Spec PyProof.Rows L2
open scoped Classical
/-! ### xs[a:b:c], xs a list -/
def pick {α : Type} (xs : List α) (lo hi st : Option Int) : List α := (sliceRange (sliceBounds lo hi st xs.length).1 (sliceBounds lo hi st xs.length).2.1 (sliceBounds lo hi st xs.length).2.2).filterMap (xs[·]?)
section
variable {X : Cx} {e st : Expr} {lo hi : Option Expr} {te : TE} {tl th ts : TO} {p2 pos : Pos}
end
end Vi

set_option Elab.async false
set_option linter.all false
set_option autoImplicit false
set_option maxRecDepth 100000
set_option maxHeartbeats 2000000
namespace Vi
open PySem PySem.Spec PyProof.Rows L2
open scoped Classical
/-! ### xs != ys, both lists of the same objects -/
/-! ### xs + ys, a list that will change -/
end Vi

set_option Elab.async false
set_option linter.all false
set_option autoImplicit false
set_option maxRecDepth 100000
set_option maxHeartbeats 2000000
namespace Vi
open PySem PySem.Spec PyProof.Rows L2
open scoped Classical
/-! ### x or y, x a tuple, None, True or False -/
end Vi

set_option Elab.async false
set_option linter.all false
set_option autoImplicit false
set_option maxRecDepth 100000
set_option maxHeartbeats 2000000
namespace Vi
open PySem PySem.Spec PyProof.Rows L2
open scoped Classical
/-! ### heappush, heappop over lists of texts -/
theorem en_push : entryFor table "_heapq.heappush" = some Builtin.«_heapq.heappush» := entryFor_of_fast (by kernel_rfl)
theorem en_pop : entryFor table "_heapq.heappop" = some Builtin.«_heapq.heappop» := entryFor_of_fast (by kernel_rfl)
theorem en_sift : entryFor table "_heapq.heapify.sift" = some Builtin.«_heapq.heapify.sift» := entryFor_of_fast (by kernel_rfl)
theorem kd_push : builtinKind "_heapq.heappush" = none := by decide +kernel
theorem kd_pop : builtinKind "_heapq.heappop" = none := by decide +kernel
theorem pl_push : plainId "_heapq.heappush" = true := by decide +kernel
theorem pl_pop : plainId "_heapq.heappop" = true := by decide +kernel
theorem pl_sift : plainId "_heapq.heapify.sift" = true := by decide +kernel
theorem ar_push (a b : Value) : argsOk "_heapq.heappush" ⟨[a, b], []⟩ := by unfold argsOk; kernel_rfl
theorem ar_pop (a : Value) : argsOk "_heapq.heappop" ⟨[a], []⟩ := by unfold argsOk; kernel_rfl
def ltS (x y : Str) : Bool := decide (x.cps.toList < y.cps.toList)
def swp (xs : List Str) (i j : Nat) : List Str := match xs[i]?, xs[j]? with
  | some x, some y => (xs.set i y).set j x
  | _, _ => xs
def ltAt (xs : List Str) (i j : Nat) : Bool := match xs[i]?, xs[j]? with
  | some x, some y => ltS x y
  | _, _ => false
def upS : Nat → List Str → Nat → List Str
  | 0, xs, _ => xs
  | n + 1, xs, p => if p = 0 then xs else if ltAt xs p ((p - 1) / 2) then upS n (swp xs ((p - 1) / 2) p) ((p - 1) / 2) else xs
def kid (xs : List Str) (p : Nat) : Nat := if 2 * p + 2 < xs.length ∧ ltAt xs (2 * p + 1) (2 * p + 2) = false then 2 * p + 2 else 2 * p + 1
def dnS : Nat → List Str → Nat → List Str
  | 0, xs, _ => xs
  | n + 1, xs, p => if p < xs.length / 2 then dnS n (swp xs (kid xs p) p) (kid xs p) else upS (p + 1) xs p
theorem swp_len (xs : List Str) (i j : Nat) : (swp xs i j).length = xs.length := by
  unfold swp
  split
  · rw [List.length_set, List.length_set]
  · rfl
/-- a list of texts as its items stand -/
def SV (its : List Value) (ys : List Str) : Prop := its.length = ys.length ∧ ∀ (i : Nat) (y : Str), ys[i]? = some y → ∃ t, its[i]? = some (.str y t)
def LAt (h : Heap) (a : Addr) (its : List Value) : Prop := ∃ n, h.get? a = some { cls := .type "list", data := .seq its.toArray n }
theorem SV.of : ∀ {ys : List Str} {its : List Value}, Vals (ys.map V.str) its → SV its ys
  | [], _, .nil => ⟨rfl, fun i y e => by simp at e⟩
  | y :: ys, _, .cons r t => by
    obtain ⟨l, g⟩ := SV.of t
    obtain ⟨tk, rfl⟩ := r
    refine ⟨by rw [List.length_cons, List.length_cons, l], fun i z e => ?_⟩
    cases i with
    | zero => simp at e; subst e; exact ⟨tk, rfl⟩
    | succ i => exact g i z (by simpa using e)
theorem SV.vals : ∀ {ys : List Str} {its : List Value}, SV its ys → Vals (ys.map V.str) its
  | [], [], _ => .nil
  | [], _ :: _, h => by have := h.1; simp at this
  | y :: ys, [], h => by have := h.1; simp at this
  | y :: ys, u :: us, h => by
    obtain ⟨tk, e⟩ := h.2 0 y rfl
    simp at e
    subst e
    exact .cons ⟨tk, rfl⟩ (SV.vals ⟨by have := h.1; simpa using this, fun i z q => h.2 (i + 1) z (by simpa using q)⟩)
theorem SV.swap {its : List Value} {ys : List Str} {i j : Nat} {x y : Str} {t u : Tok} (h : SV its ys) (ei : ys[i]? = some x) (ej : ys[j]? = some y) : SV ((its.set i (.str y u)).set j (.str x t)) (swp ys i j) := by
  have li := (List.getElem?_eq_some_iff.mp ei).1
  have lj := (List.getElem?_eq_some_iff.mp ej).1
  have e : swp ys i j = (ys.set i y).set j x := by unfold swp; rw [ei, ej]
  rw [e]
  refine ⟨by rw [List.length_set, List.length_set, List.length_set, List.length_set]; exact h.1, fun k z q => ?_⟩
  by_cases kj : k = j
  · subst kj
    rw [List.getElem?_set_self (by rw [List.length_set]; exact lj)] at q
    cases q
    exact ⟨t, List.getElem?_set_self (by rw [List.length_set, h.1]; exact lj)⟩
  · rw [List.getElem?_set_ne (Ne.symm kj)] at q ⊢
    by_cases ki : k = i
    · subst ki
      rw [List.getElem?_set_self li] at q
      cases q
      exact ⟨u, List.getElem?_set_self (by rw [h.1]; exact li)⟩
    · rw [List.getElem?_set_ne (Ne.symm ki)] at q ⊢
      exact h.2 k z q
section
variable {prog : Program} {w : World} {A : Around} {E : Value → Shared → Prop} {s : Shared} {a : Addr}
theorem LAt.set {h : Heap} {its its' : List Value} {f : Array Value → Array Value} (l : LAt h a its) (e : f its.toArray = its'.toArray) : LAt (h.update a (Obj.mapSeq f)) a its' := by
  obtain ⟨n, g⟩ := l
  have q := PySem.IsL.update g f
  rw [e] at q
  exact ⟨_, q⟩
theorem at_wp {M : Model} {xs : Array Value} {i : Nat} {v : Value} {Q : Value → Shared → Prop} (e : xs[i]? = some v) (h : Q v s) (m : Sem Value) (em : m = (match xs[i]? with | some v => pure v | none => unsupported "internal:_heapq.index")) : wpAny M A m Q E s := by
  subst em
  rw [e]
  exact wpAny_pure h
theorem SV.at {its : List Value} {ys : List Str} (h : SV its ys) {i : Nat} (hi : i < ys.length) : ∃ (y : Str) (t : Tok), ys[i]? = some y ∧ its.toArray[i]? = some (.str y t) := by
  have e : ys[i]? = some ys[i] := List.getElem?_eq_getElem hi
  obtain ⟨t, q⟩ := h.2 i _ e
  exact ⟨_, t, e, by simpa using q⟩
/-- two items change their places -/
theorem swap_wp {its : List Value} {ys : List Str} {i j : Nat} {Q : Unit → Shared → Prop} (la : LAt s.heap a its) (sv : SV its ys) (hi : i < ys.length) (hj : j < ys.length) (hz : ys.length ≤ sizeLine)
    (q : ∀ h' its', Heap.SameBut a s.heap h' → LAt h' a its' → SV its' (swp ys i j) → Q () { s with heap := h' }) (items : Sem (Array Value)) (atf : Array Value → Nat → Sem Value)
    (h1 : ∀ Q : Array Value → Shared → Prop, Q its.toArray s → wpAny (model prog w) A items Q E s) (h2 : ∀ (i : Nat) (v : Value) (Q : Value → Shared → Prop), its.toArray[i]? = some v → Q v s → wpAny (model prog w) A (atf its.toArray i) Q E s) :
    wpAny (model prog w) A (items >>= fun xs => atf xs i >>= fun x => atf xs j >>= fun y => updateSeq a fun xs => (xs.setIfInBounds i y).setIfInBounds j x) Q E s := by
  obtain ⟨x, t, ex, fx⟩ := sv.at hi
  obtain ⟨y, u, ey, fy⟩ := sv.at hj
  obtain ⟨c, g⟩ := id la
  refine wpAny_bind (h1 _ ?_)
  refine wpAny_bind (h2 _ _ _ fx ?_)
  refine wpAny_bind (h2 _ _ _ fy ?_)
  have e : (fun xs : Array Value => (xs.setIfInBounds i (.str y u)).setIfInBounds j (.str x t)) its.toArray = ((its.set i (.str y u)).set j (.str x t)).toArray := by simp
  refine wpAny_updateSeq g rfl (q _ _ (Heap.SameBut.update ..) (la.set e) (sv.swap ex ey)) (by rw [List.size_toArray, sv.1]; exact hz) (Nat.le_trans (Nat.le_of_eq (congrArg Array.size e)) (by rw [List.size_toArray, List.length_set, List.length_set, sv.1]; omega))
theorem sift_up {R : Result → Shared → Prop} {res : Value} : ∀ (n p : Nat) (s : Shared) (its : List Value) (ys : List Str), p < n → p < ys.length → LAt s.heap a its → SV its ys → ys.length ≤ sizeLine →
    (∀ h' its' tk, Heap.SameBut a s.heap h' → LAt h' a its' → SV its' (upS n ys p) → R (.ok (.ret res)) { s with heap := h', toks := tk }) →
    codeAny (model prog w) A (.builtin "_heapq.heapify.sift" ⟨[.ref a, .bool false, .bool false, rawInt p, rawInt 0, res, rawInt (-1)], []⟩) R s := by
  intro n
  induction n with
  | zero => intro p s its ys h; omega
  | succ n ih =>
    intro p s its ys hp hl la sv hz k
    obtain ⟨c, g⟩ := id la
    refine codeAny_builtin en_sift ?_
    rw [Around.under_plainId pl_sift _]
    refine wpAny_bind ?_
    refine wpAny_bind (wpAny_seqItems g rfl (wpAny_pure ?_))
    dsimp only
    rw [if_neg Bool.false_ne_true]
    rw [Int.toNat_natCast, show Int.toNat 0 = 0 from rfl]
    rw [upS] at k
    by_cases h0 : p = 0
    · rw [if_pos h0] at k
      subst h0
      rw [if_neg (Nat.lt_irrefl 0)]
      exact wpAny_pure (k s.heap its s.toks (Heap.SameBut.refl ..) la sv)
    rw [if_neg h0] at k
    rw [if_pos (by omega : p > 0)]
    obtain ⟨x, t, ex, fx⟩ := sv.at hl
    have hq : (p - 1) / 2 < ys.length := by omega
    obtain ⟨y, u, ey, fy⟩ := sv.at hq
    refine wpAny_bind (at_wp fx ?_ _ rfl)
    refine wpAny_bind (at_wp fy ?_ _ rfl)
    rw [if_neg Bool.false_ne_true]
    refine wpAny_bind ?_
    refine wpAny_bind (wpAny_holding (wpAny_bind (DT.rcLt_str _ _ _ _ _ _ _ _ _ _ (wpAny_truthy_bool ?_))))
    refine wpAny_bind ?_
    refine wpAny_bind (wpAny_seqItems g rfl (wpAny_pure ?_))
    have el : ltAt ys p ((p - 1) / 2) = decide (x.cps.toList < y.cps.toList) := by unfold ltAt; rw [ex, ey]; rfl
    rw [el] at k
    dsimp only
    rw [if_neg (by simp)]
    refine wpAny_pure ?_
    by_cases hb : decide (x.cps.toList < y.cps.toList) = true
    · rw [if_pos hb] at k
      rw [if_pos hb]
      refine wpAny_bind (swap_wp la sv hq hl hz (fun h' its' sb la' sv' => ?_) _ _ (fun Q h => wpAny_bind (wpAny_seqItems g rfl (wpAny_pure h))) (fun i v Q e h => at_wp e h _ rfl))
      exact wpAny_pure ⟨plainId_quiet pl_sift _, ih ((p - 1) / 2) _ its' _ (by omega) (by rw [swp_len]; exact hq) la' sv' (by rw [swp_len]; exact hz) fun h2 its2 tk sb2 la2 sv2 => k h2 its2 tk (sb.trans sb2) la2 sv2⟩
    · rw [if_neg hb] at k
      rw [if_neg hb, if_pos (by decide)]
      exact wpAny_pure (k s.heap its s.toks (Heap.SameBut.refl ..) la sv)
theorem sift_down {R : Result → Shared → Prop} {res : Value} : ∀ (n p : Nat) (s : Shared) (its : List Value) (ys : List Str), ys.length < n + p → p < ys.length → LAt s.heap a its → SV its ys → ys.length ≤ sizeLine →
    (∀ h' its' tk, Heap.SameBut a s.heap h' → LAt h' a its' → SV its' (dnS n ys p) → R (.ok (.ret res)) { s with heap := h', toks := tk }) →
    codeAny (model prog w) A (.builtin "_heapq.heapify.sift" ⟨[.ref a, .bool false, .bool true, rawInt p, rawInt 0, res, rawInt (-1)], []⟩) R s := by
  intro n
  induction n with
  | zero => intro p s its ys h h2; omega
  | succ n ih =>
    intro p s its ys hp hl la sv hz k
    obtain ⟨c, g⟩ := id la
    have hs : its.toArray.size = ys.length := by rw [List.size_toArray, sv.1]
    refine codeAny_builtin en_sift ?_
    rw [Around.under_plainId pl_sift _]
    refine wpAny_bind ?_
    refine wpAny_bind (wpAny_seqItems g rfl (wpAny_pure ?_))
    dsimp only
    rw [if_pos rfl]
    rw [Int.toNat_natCast, show Int.toNat 0 = 0 from rfl, hs]
    rw [dnS] at k
    by_cases h0 : p < ys.length / 2
    · rw [if_pos h0] at k
      rw [if_pos h0]
      have fin : ∀ (q : Nat) (s' : Shared), q = kid ys p → q < ys.length → p < q → LAt s'.heap a its → s'.heap = s.heap → s'.gens = s.gens → s'.drawn = s.drawn → s'.os = s.os → ∀ m : Sem Unit,
          (∀ Q : Unit → Shared → Prop, (∀ h' its', Heap.SameBut a s'.heap h' → LAt h' a its' → SV its' (swp ys q p) → Q () { s' with heap := h' }) → wpAny (model prog w) A.in1 m Q (fun e s' => R (Except.error e) s') s') →
          wpAny (model prog w) A.in1 (m >>= fun _ => again (.builtin "_heapq.heapify.sift" ⟨[.ref a, .bool false, .bool true, rawInt q, rawInt 0, res, rawInt (-1)], []⟩)) (fun fin s' => match fin with
        | Fin.done f => R (Except.ok f) s'
        | Fin.again c' => c'.quiet = true ∧ codeAny (model prog w) A c' R s') (fun e s' => R (Except.error e) s') s' := fun q s' eq hq pq la' e1 e2 e3 e4 m em => by
        subst eq
        refine wpAny_bind (em _ fun h' its' sb la2 sv' => ?_)
        refine wpAny_pure ⟨plainId_quiet pl_sift _, ih (kid ys p) _ its' _ (by rw [swp_len]; omega) (by rw [swp_len]; exact hq) la2 sv' (by rw [swp_len]; exact hz) fun h2 its2 tk sb2 la3 sv2 => ?_⟩
        have z := k h2 its2 tk (by rw [← e1]; exact sb.trans sb2) la3 sv2
        rw [← e2, ← e3, ← e4] at z
        exact z
      by_cases c2 : 2 * p + 1 + 1 < ys.length
      · rw [if_pos c2]
        obtain ⟨x, t, ex, fx⟩ := sv.at (i := 2 * p + 1) (by omega)
        obtain ⟨y, u, ey, fy⟩ := sv.at (i := 2 * p + 1 + 1) c2
        refine wpAny_bind (at_wp fx ?_ _ rfl)
        refine wpAny_bind (at_wp fy ?_ _ rfl)
        rw [if_neg Bool.false_ne_true]
        refine wpAny_bind ?_
        refine wpAny_bind (wpAny_holding (wpAny_bind (DT.rcLt_str _ _ _ _ _ _ _ _ _ _ (wpAny_truthy_bool ?_))))
        refine wpAny_bind ?_
        refine wpAny_bind (wpAny_seqItems g rfl (wpAny_pure ?_))
        dsimp only
        rw [if_neg (by simp [sv.1])]
        refine wpAny_pure ?_
        have el : ltAt ys (2 * p + 1) (2 * p + 2) = decide (x.cps.toList < y.cps.toList) := by
          unfold ltAt
          rw [ex, show ys[2 * p + 2]? = some y from ey]
          rfl
        by_cases hb : decide (x.cps.toList < y.cps.toList) = true
        · rw [if_neg (by rw [hb]; decide)]
          refine fin (2 * p + 1) _ ?_ (by omega) (by omega) la rfl rfl rfl rfl _ (fun Q h => swap_wp la sv (by omega) hl hz h _ _ (fun Q h => wpAny_bind (wpAny_seqItems g rfl (wpAny_pure h))) (fun i v Q e h => at_wp e h _ rfl))
          unfold kid
          rw [if_neg (fun z => by rw [el, hb] at z; exact nomatch z.2)]
        · have hb : decide (x.cps.toList < y.cps.toList) = false := by simpa using hb
          rw [if_pos (by rw [hb]; decide)]
          refine fin (2 * p + 1 + 1) _ ?_ c2 (by omega) la rfl rfl rfl rfl _ (fun Q h => swap_wp la sv (by omega) hl hz h _ _ (fun Q h => wpAny_bind (wpAny_seqItems g rfl (wpAny_pure h))) (fun i v Q e h => at_wp e h _ rfl))
          unfold kid
          rw [if_pos ⟨c2, by rw [el, hb]⟩]
      · rw [if_neg c2]
        refine fin (2 * p + 1) _ ?_ (by omega) (by omega) la rfl rfl rfl rfl _ (fun Q h => swap_wp la sv (by omega) hl hz h _ _ (fun Q h => wpAny_bind (wpAny_seqItems g rfl (wpAny_pure h))) (fun i v Q e h => at_wp e h _ rfl))
        unfold kid
        rw [if_neg (fun z => c2 z.1)]
    · rw [if_neg h0] at k
      rw [if_neg h0]
      exact wpAny_pure ⟨plainId_quiet pl_sift _, sift_up (p + 1) p _ its ys (Nat.lt_succ_self _) hl la sv hz k⟩
def pushS (xs : List Str) (y : Str) : List Str := upS (xs.length + 1) (xs ++ [y]) xs.length
theorem push_wp {its : List Value} {ys : List Str} {y : Str} {t : Tok} {Q : Value → Shared → Prop} (la : LAt s.heap a its) (sv : SV its ys) (hz : ys.length < sizeLine)
    (q : ∀ h' its' tk, Heap.SameBut a s.heap h' → LAt h' a its' → SV its' (pushS ys y) → Q .none { s with heap := h', toks := tk }) :
    wpAny (model prog w) A (call (.builtin "_heapq.heappush") [.ref a, .str y t]) Q E s := by
  obtain ⟨c, g⟩ := id la
  refine call_function_tree kd_push pl_push en_push (ar_push _ _) ?_
  refine wpAny_bind ?_
  refine wpAny_bind ?_
  refine wpAny_of_eq (show noKeywords _ _ = pure () from rfl) ?_
  refine wpAny_bind ?_
  refine wpAny_of_eq (show checkCount _ _ _ _ = pure () from rfl) ?_
  dsimp only
  refine wpAny_bind ?_
  refine wpAny_bind ?_
  refine wpAny_isInstance (T := "list") (b := true) ⟨_, g, rfl⟩ (by kernel_rfl) ?_
  rw [if_pos rfl]
  refine wpAny_pure ?_
  refine wpAny_pure ?_
  dsimp only
  have e1 : (fun xs : Array Value => xs.push (.str y t)) its.toArray = (its ++ [Value.str y t]).toArray := by simp
  refine wpAny_bind (wpAny_updateSeq g rfl ?_ (by rw [List.size_toArray, sv.1]; omega) (Nat.le_trans (Nat.le_of_eq (congrArg Array.size e1)) (by rw [List.size_toArray, List.length_append, sv.1]; show _ + 1 ≤ _; omega)))
  have la1 := la.set (f := fun xs => xs.push (.str y t)) e1
  have sv1 : SV (its ++ [Value.str y t]) (ys ++ [y]) := ⟨by rw [List.length_append, List.length_append, sv.1]; rfl, fun i z e => by
    by_cases hi : i < ys.length
    · rw [List.getElem?_append_left hi] at e
      rw [List.getElem?_append_left (by rw [sv.1]; exact hi)]
      exact sv.2 i z e
    · have il := (List.getElem?_eq_some_iff.mp e).1
      rw [List.length_append, List.length_singleton] at il
      have : i = ys.length := by omega
      subst this
      rw [List.getElem?_append_right (Nat.le_refl _), Nat.sub_self] at e
      cases Option.some.inj e
      exact ⟨t, by rw [List.getElem?_append_right (by rw [sv.1]; exact Nat.le_refl _), sv.1, Nat.sub_self]; rfl⟩⟩
  obtain ⟨c1, g1⟩ := id la1
  refine wpAny_bind ?_
  refine wpAny_bind (wpAny_seqItems g1 rfl (wpAny_pure ?_))
  have hs : (its ++ [Value.str y t]).toArray.size - 1 = ys.length := by rw [List.size_toArray, List.length_append, sv.1]; rfl
  rw [hs]
  exact wpAny_pure ⟨plainId_quiet pl_sift _, sift_up (ys.length + 1) ys.length _ _ (ys ++ [y]) (Nat.lt_succ_self _) (by rw [List.length_append]; exact Nat.lt_succ_self _) la1 sv1 (by rw [List.length_append]; exact hz) fun h' its' tk sb la2 sv2 => q h' its' tk ((Heap.SameBut.update ..).trans sb) la2 sv2⟩
/-- the least and what is left; of a list that is not empty -/
def popS (xs : List Str) : Str × List Str := match xs.dropLast with
  | [] => (xs.getLastD "", [])
  | x :: r => (x, dnS (xs.length) ((x :: r).set 0 (xs.getLastD "")) 0)
theorem SV.cut {its : List Value} {ys : List Str} {y : Str} (h : SV its (ys ++ [y])) : ∃ (its0 : List Value) (t : Tok), its = its0 ++ [Value.str y t] ∧ SV its0 ys := by
  obtain ⟨l, g⟩ := h
  rw [List.length_append, List.length_singleton] at l
  obtain ⟨t, e⟩ := g ys.length y (by rw [List.getElem?_append_right (Nat.le_refl _), Nat.sub_self]; rfl)
  have e2 : its = its.take ys.length ++ [Value.str y t] := by
    refine List.ext_getElem? fun i => ?_
    by_cases c : i < ys.length
    · rw [List.getElem?_append_left (by rw [List.length_take]; omega), List.getElem?_take_of_lt c]
    · by_cases c2 : i = ys.length
      · subst c2
        rw [List.getElem?_append_right (by rw [List.length_take]; omega), List.length_take, e, show ys.length - min ys.length its.length = 0 by omega]
        rfl
      · rw [List.getElem?_eq_none (by omega), List.getElem?_eq_none (by rw [List.length_append, List.length_take, List.length_singleton]; omega)]
  refine ⟨its.take ys.length, t, e2, by rw [List.length_take]; omega, fun i z q => ?_⟩
  have il := (List.getElem?_eq_some_iff.mp q).1
  obtain ⟨u, w⟩ := g i z (by rw [List.getElem?_append_left il]; exact q)
  exact ⟨u, by rw [List.getElem?_take_of_lt il]; exact w⟩
theorem pop_wp {its : List Value} {ys : List Str} {y : Str} {Q : Value → Shared → Prop} (la : LAt s.heap a its) (sv : SV its (ys ++ [y])) (hz : (ys ++ [y]).length ≤ sizeLine)
    (q : ∀ h' its' tk t, Heap.SameBut a s.heap h' → LAt h' a its' → SV its' (popS (ys ++ [y])).2 → Q (.str (popS (ys ++ [y])).1 t) { s with heap := h', toks := tk }) :
    wpAny (model prog w) A (call (.builtin "_heapq.heappop") [.ref a]) Q E s := by
  obtain ⟨its, t, rfl, sv0⟩ := sv.cut
  obtain ⟨c, g⟩ := id la
  have hl : (ys ++ [y]).length = ys.length + 1 := by rw [List.length_append]; rfl
  refine call_function_tree kd_pop pl_pop en_pop (ar_pop _) ?_
  refine wpAny_bind ?_
  refine wpAny_bind ?_
  refine wpAny_of_eq (show oneArg _ _ = pure (Value.ref a) from rfl) ?_
  refine wpAny_bind ?_
  refine wpAny_bind ?_
  refine wpAny_isInstance (T := "list") (b := true) ⟨_, g, rfl⟩ (by kernel_rfl) ?_
  rw [if_pos rfl]
  refine wpAny_pure ?_
  refine wpAny_pure ?_
  dsimp only
  refine wpAny_bind ?_
  refine wpAny_bind (wpAny_seqItems g rfl (wpAny_pure ?_))
  have hb : (its ++ [Value.str y t]).toArray.back? = some (Value.str y t) := by simp
  have hsz : (its ++ [Value.str y t]).toArray.size = ys.length + 1 := by rw [List.size_toArray, sv.1]; exact hl
  rw [hb, hsz]
  dsimp only
  have e1 : (fun xs : Array Value => xs.pop) (its ++ [Value.str y t]).toArray = its.toArray := by simp
  refine wpAny_bind (wpAny_updateSeq g rfl ?_ (by rw [hsz]; omega) (Nat.le_trans (Nat.le_of_eq (congrArg Array.size e1)) (by rw [List.size_toArray, sv0.1]; omega)))
  have la1 := la.set (f := fun xs => xs.pop) e1
  have sb1 : Heap.SameBut a s.heap (s.heap.update a (Obj.mapSeq fun xs => xs.pop)) := Heap.SameBut.update ..
  cases ys with
  | nil =>
    have ep : popS (([] : List Str) ++ [y]) = (y, []) := rfl
    rw [ep] at q
    refine (show wpAny _ _ (ret (Value.str y t)) _ _ _ from wpAny_pure (q _ its s.toks t sb1 la1 sv0))
  | cons x ys =>
    have ep : popS (x :: ys ++ [y]) = (x, dnS (ys.length + 2) ((x :: ys).set 0 y) 0) := by
      unfold popS
      rw [show (x :: ys ++ [y]).dropLast = x :: ys from List.dropLast_concat .., show (x :: ys ++ [y]).getLastD "" = y by rw [List.getLastD_concat], show (x :: ys ++ [y]).length = ys.length + 2 from hl]
    rw [ep] at q
    rw [if_neg (by simp)]
    obtain ⟨x', tx, ex, fx⟩ := sv0.at (i := 0) (Nat.succ_pos _)
    cases Option.some.inj ex
    have fx0 : (its ++ [Value.str y t]).toArray[0]? = some (Value.str x tx) := by
      have l0 : 0 < its.length := by rw [sv0.1]; exact Nat.succ_pos _
      rw [List.getElem?_toArray, List.getElem?_append_left l0]
      simpa using fx
    refine wpAny_bind (at_wp fx0 ?_ _ rfl)
    obtain ⟨c1, g1⟩ := id la1
    have e2 : (fun xs : Array Value => xs.setIfInBounds 0 (Value.str y t)) its.toArray = (its.set 0 (Value.str y t)).toArray := by simp
    refine wpAny_bind (wpAny_updateSeq g1 rfl ?_ (by rw [List.size_toArray, sv0.1]; omega) (Nat.le_trans (Nat.le_of_eq (congrArg Array.size e2)) (by rw [List.size_toArray, List.length_set, sv0.1]; omega)))
    have la2 := la1.set (f := fun xs => xs.setIfInBounds 0 (Value.str y t)) e2
    have sv2 : SV (its.set 0 (Value.str y t)) ((x :: ys).set 0 y) := ⟨by rw [List.length_set, List.length_set, sv0.1], fun i z e => by
      cases i with
      | zero =>
        cases Option.some.inj e
        exact ⟨t, List.getElem?_set_self (by rw [sv0.1]; exact Nat.succ_pos _)⟩
      | succ i =>
        rw [List.getElem?_set_ne (by omega)] at e ⊢
        exact sv0.2 (i + 1) z e⟩
    exact wpAny_pure ⟨plainId_quiet pl_sift _, sift_down (ys.length + 2) 0 _ _ ((x :: ys).set 0 y) (by rw [List.length_set]; exact Nat.lt_succ_self _) (by rw [List.length_set]; exact Nat.succ_pos _) la2 sv2 (by rw [List.length_set]; omega) fun h' its' tk sb la3 sv3 => q h' its' tk tx ((sb1.trans (Heap.SameBut.update ..)).trans sb) la3 sv3⟩
end
/-! ### as calls -/
section
variable {X : Cx} {W : WX}
theorem hq_inv {pins : List (Addr × Obj)} {σ : L2.St} {H : Hp} {s : Shared} {a : Addr} {xs : List V} {ys : List Str} {its : List Value} {h' : Heap} {tk : Nat} (I : Inv X pins σ H s) (hH : H a = some (.lst xs)) (sb : Heap.SameBut a s.heap h') (la : LAt h' a its) (sv : SV its ys) (hz : ys.length ≤ sizeLine) :
    Inv X pins σ (upd H a (.lst (ys.map V.str))) { s with heap := h', toks := tk } := by
  obtain ⟨n, g⟩ := la
  refine I.write (x := a) (e := a) (by rw [hH]; exact trivial) (.inl rfl) (fun b u hb hu => ?_) ⟨_, g⟩ ?_
  · exact (sb.2 b hb).trans hu
  · exact ⟨by rw [List.length_map]; exact hz, its, n, sv.vals, g⟩
def rHPush : List V → Hp → VK → Prop := fun xs H Q => ∃ (a : Addr) (ys : List Str) (y : Str), xs = [.ref a, .str y] ∧ H a = some (.lst (ys.map V.str)) ∧ ys.length < 1000000 ∧ Q .non (upd H a (.lst ((pushS ys y).map V.str)))
theorem upS_len : ∀ (n : Nat) (xs : List Str) (p : Nat), (upS n xs p).length = xs.length
  | 0, _, _ => rfl
  | n + 1, xs, p => by
    rw [upS]
    split
    · rfl
    · split
      · rw [upS_len n, swp_len]
      · rfl
theorem dnS_len : ∀ (n : Nat) (xs : List Str) (p : Nat), (dnS n xs p).length = xs.length
  | 0, _, _ => rfl
  | n + 1, xs, p => by
    rw [dnS]
    split
    · rw [dnS_len n, swp_len]
    · rw [upS_len]
theorem pushS_len (xs : List Str) (y : Str) : (pushS xs y).length = xs.length + 1 := by
  unfold pushS
  rw [upS_len, List.length_append]
  rfl
theorem popS_len {xs : List Str} (h : xs ≠ []) : (popS xs).2.length + 1 = xs.length := by
  have e : xs.dropLast.length = xs.length - 1 := List.length_dropLast
  have l : 0 < xs.length := List.length_pos_iff.mpr h
  unfold popS
  split
  · next q => rw [q] at e; show 0 + 1 = _; simp at e; omega
  · next x r q =>
    show (dnS _ _ _).length + 1 = _
    rw [dnS_len, List.length_set, ← q, e]
    omega
theorem cr_push : CallR X (.builtin "_heapq.heappush") rHPush := by
  intro pins s σ H xs us Q I r h
  obtain ⟨a, ys, y, rfl, hH, hl, q⟩ := h
  obtain ⟨u1, u2, rfl, r1, r2⟩ := vals2 r
  cases (show u1 = Value.ref a from r1)
  obtain ⟨t, rfl⟩ := (show ∃ t, u2 = Value.str y t from r2)
  obtain ⟨z, its, n, rv, le, g⟩ := I.lstM hH
  have sz := sizeLine_eq
  exact push_wp ⟨n, g⟩ (SV.of rv) (by omega) fun h' its' tk sb la sv => ⟨.non, _, hq_inv (tk := tk) I hH sb la sv (by rw [pushS_len]; omega), rfl, q⟩
def rHPop : List V → Hp → VK → Prop := fun xs H Q => ∃ (a : Addr) (ys : List Str), xs = [.ref a] ∧ H a = some (.lst (ys.map V.str)) ∧ ys ≠ [] ∧ ys.length ≤ 1000000 ∧ Q (.str (popS ys).1) (upd H a (.lst ((popS ys).2.map V.str)))
theorem cr_pop : CallR X (.builtin "_heapq.heappop") rHPop := by
  intro pins s σ H xs us Q I r h
  obtain ⟨a, ys, rfl, hH, ne, hl, q⟩ := h
  obtain ⟨u1, rfl, r1⟩ := vals1 r
  cases (show u1 = Value.ref a from r1)
  obtain ⟨z, its, n, rv, le, g⟩ := I.lstM hH
  have sz := sizeLine_eq
  have pl := popS_len ne
  obtain ⟨y0, ys0, rfl⟩ : ∃ y0 ys0, ys = ys0 ++ [y0] := ⟨_, _, (List.dropLast_concat_getLast ne).symm⟩
  exact pop_wp ⟨n, g⟩ (SV.of rv) (by omega) fun h' its' tk t sb la sv => ⟨.str _, _, hq_inv (tk := tk) I hH sb la sv (by omega), ⟨t, rfl⟩, q⟩
/-- what a call does that changes the world -/
def mCBw (g : List D → Hap → Rs D) (a : MA) : ME := fun env h => (a env h).bind g
def gHPush : List D → Hap → Rs D := fun ds h => match ds with
  | [.ref i, .str y] => match h[i]? with
    | some (.lst xs) => match strsOf xs with
      | some ys => if ys.length < 1000000 then .ok .non (h.set i (.lst ((pushS ys y).map .str))) else .stuck
      | none => .stuck
    | _ => .stuck
  | _ => .stuck
def gHPop : List D → Hap → Rs D := fun ds h => match ds with
  | [.ref i] => match h[i]? with
    | some (.lst xs) => match strsOf xs with
      | some ys => if ys ≠ [] ∧ ys.length ≤ 1000000 then .ok (.str (popS ys).1) (h.set i (.lst ((popS ys).2.map .str))) else .stuck
      | none => .stuck
    | _ => .stuck
  | _ => .stuck
theorem vrs_ofS {K : PySem.W.Frag} {w : Wd} : ∀ ys : List Str, VRs K w (ys.map V.str) (ys.map D.str)
  | [] => .nil
  | y :: ys => .cons (.str y) (vrs_ofS ys)
theorem e_hpush [Tbl] {x : Str} {p pos : Pos} {e : Expr} {es : List Expr} {m : MA} (hg : Gl X x) (hm : X.mg x = some (.builtin "_heapq.heappush")) (ha : PA X (e :: es) (tA X.K X.mg W m)) (hdb : (x == ("__debug__" : Str)) = false := by decide)
    (he : starEach (e :: es) X.env = (false, eval e X.env) :: starEach es X.env := by rfl) (hpl : (backTo pos (starEach es X.env)).any (·.1) = false := by rfl) : PE X (.Call (.Name x p) (e :: es) [] pos) (tE X.K X.mg W (mCBw gHPush m)) :=
  PE.imp (pe_callBfun cr_push hg hm ha hdb he hpl) fun σ H Q ⟨w, env, h, ok, er, p⟩ => ⟨w, env, h, ok, er, Post.bind p fun xs ds w1 H1 h1 s1 ok1 v1 p1 => by
    unfold gHPush at p1
    split at p1
    · next i y =>
      split at p1
      · next zs e1 =>
        split at p1
        · next ys e2 =>
          split at p1
          · next hl =>
            have e3 := strsOf_is e2
            subst e3
            obtain ⟨u1, u2, rfl, r1, r2⟩ : ∃ u1 u2, xs = [u1, u2] ∧ VR X.K w1 u1 (.ref i) ∧ VR X.K w1 u2 (.str y) := by
              cases v1 with
              | cons a b =>
                cases b with
                | cons b c => cases c; exact ⟨_, _, rfl, a, b⟩
            cases r2
            cases r1 with
            | ref hr =>
              next a =>
              obtain ⟨_, ob, e4, e5⟩ := ok1.cel i a _ hr e1
              cases ob <;> simp [CRel] at e5
              next vs =>
              have := VRs.strs e5
              subst this
              have q := ok1.write (hn := by rw [e1]; exact fun _ z => nomatch z) (o := .lst ((pushS ys y).map V.str)) (c := .lst ((pushS ys y).map .str)) hr (vrs_ofS _)
              exact ⟨a, ys, y, rfl, e4, hl, p1 _ _ _ q.2 q.1 .non⟩
          · exact p1.elim
        · exact p1.elim
      · exact p1.elim
    · exact p1.elim⟩
theorem e_hpop [Tbl] {x : Str} {p pos : Pos} {e : Expr} {es : List Expr} {m : MA} (hg : Gl X x) (hm : X.mg x = some (.builtin "_heapq.heappop")) (ha : PA X (e :: es) (tA X.K X.mg W m)) (hdb : (x == ("__debug__" : Str)) = false := by decide)
    (he : starEach (e :: es) X.env = (false, eval e X.env) :: starEach es X.env := by rfl) (hpl : (backTo pos (starEach es X.env)).any (·.1) = false := by rfl) : PE X (.Call (.Name x p) (e :: es) [] pos) (tE X.K X.mg W (mCBw gHPop m)) :=
  PE.imp (pe_callBfun cr_pop hg hm ha hdb he hpl) fun σ H Q ⟨w, env, h, ok, er, p⟩ => ⟨w, env, h, ok, er, Post.bind p fun xs ds w1 H1 h1 s1 ok1 v1 p1 => by
    unfold gHPop at p1
    split at p1
    · next i =>
      split at p1
      · next zs e1 =>
        split at p1
        · next ys e2 =>
          split at p1
          · next hl =>
            have e3 := strsOf_is e2
            subst e3
            obtain ⟨u1, rfl, r1⟩ := vrs1 v1
            cases r1 with
            | ref hr =>
              next a =>
              obtain ⟨_, ob, e4, e5⟩ := ok1.cel i a _ hr e1
              cases ob <;> simp [CRel] at e5
              next vs =>
              have := VRs.strs e5
              subst this
              have q := ok1.write (hn := by rw [e1]; exact fun _ z => nomatch z) (o := .lst ((popS ys).2.map V.str)) (c := .lst ((popS ys).2.map .str)) hr (vrs_ofS _)
              exact ⟨a, ys, rfl, e4, hl.1, hl.2, p1 _ _ _ q.2 q.1 (.str _)⟩
          · exact p1.elim
        · exact p1.elim
      · exact p1.elim
    · exact p1.elim⟩
end
end Vi

set_option Elab.async false
set_option linter.all false
set_option autoImplicit false
set_option maxRecDepth 100000
set_option maxHeartbeats 2000000
namespace Vi
open PySem PySem.Spec PyProof.Rows L2
open scoped Classical
/-! ### min of a list of texts -/
def mnS (x : Str) (xs : List Str) : Str := xs.foldl (fun a y => if ltS y a then y else a) x
theorem reads_strs {h : Heap} : ∀ {ys : List Str} {its : List Value}, Vals (ys.map V.str) its → ReadsAll h its (ys.map PyData.str) []
  | [], _, .nil => .nil
  | y :: ys, _, .cons r t => by
    obtain ⟨tk, rfl⟩ := r
    exact .cons (as := []) (bs := []) (.str y tk) (reads_strs t)
theorem lt_data (x y : Str) : PySem.W.dataLt (.str x) (.str y) = ltS x y := by
  unfold PySem.W.dataLt PySem.W.keyToks PyProof.Rows.lexLt PyProof.Rows.lexLt ltS
  show (PyProof.Rows.strKind.blt x.cps.toList y.cps.toList || (!PyProof.Rows.strKind.blt y.cps.toList x.cps.toList && false)) = _
  rw [Bool.and_false, Bool.or_false]
theorem minD_strs (x : Str) : ∀ xs : List Str, PySem.W.minD (.str x) (xs.map .str) = .str (mnS x xs) := by
  intro xs
  unfold PySem.W.minD mnS
  induction xs generalizing x with
  | nil => rfl
  | cons y xs ih =>
    rw [List.map_cons, List.foldl_cons, List.foldl_cons, lt_data, ← ih]
    split <;> rfl
section
variable {X : Cx} {W : WX}
def rMinS (K : PySem.W.Frag) : List V → Hp → VK → Prop := fun xs H Q => ∃ (a : Addr) (y : Str) (ys : List Str), xs = [.ref a] ∧ SqL K H a ((y :: ys).map V.str) ∧ Q (.str (mnS y ys)) H
theorem cr_minS (hc : X.calm = true) (hu : X.A.units + 64 < cLine) : CallR X (.builtin "min") (rMinS X.K) := by
  intro pins s σ H xs us Q I r h
  obtain ⟨a, y, ys, rfl, hs, q⟩ := h
  obtain ⟨u1, rfl, r1⟩ := vals1 r
  cases (show u1 = Value.ref a from r1)
  obtain ⟨its, rv, pl, hz⟩ := I.list hs
  have ra : ReadsAll s.heap its.toArray.toList ((y :: ys).map PyData.str) [] := by
    rw [List.toList_toArray]
    exact reads_strs (ys := y :: ys) rv
  have dz : PyData.depthAll ((y :: ys).map PyData.str) = 0 := by
    generalize y :: ys = l
    induction l with
    | nil => rfl
    | cons z l ih => rw [List.map_cons, PyData.depthAll, ih, PyData.depth]; rfl
  refine PySem.W.min_list_data (x := .str y) (xs := ys.map .str) (I.ok.hd hc) pl.isList ra ⟨fun p mp q mq => ?_, fun p mp z => ?_⟩ (by rw [show PyData.str y :: ys.map .str = (y :: ys).map .str from rfl, dz]; omega) fun i v h' tk bs e rd kp => ?_
  · have mp : p ∈ (y :: ys).map PyData.str := mp
    have mq : q ∈ (y :: ys).map PyData.str := mq
    obtain ⟨p', _, rfl⟩ := List.mem_map.mp mp
    obtain ⟨q', _, rfl⟩ := List.mem_map.mp mq
    rfl
  · have mp : p ∈ (y :: ys).map PyData.str := mp
    obtain ⟨p', _, rfl⟩ := List.mem_map.mp mp
    cases z
  · rw [minD_strs] at rd
    cases rd
    exact ⟨.str _, H, I.kept (t' := tk) kp, ⟨_, rfl⟩, q⟩
def dMinS : List D → Hap → Option D := fun ds h => match ds with
  | [d] => (getL d h).bind fun xs => (strsOf xs).bind fun ys => match ys with
    | [] => none
    | y :: ys => some (.str (mnS y ys))
  | _ => none
theorem s_minS [Tbl] {K : PySem.W.Frag} : CallS K (rMinS K) dMinS := by
  intro w H h xs ds d Q ok vr e q
  unfold dMinS at e
  split at e
  · next x =>
    obtain ⟨us, e1, e2⟩ := Option.bind_eq_some_iff.mp e
    obtain ⟨ys, e3, e4⟩ := Option.bind_eq_some_iff.mp e2
    obtain ⟨x, rfl, r⟩ := vrs1 vr
    obtain ⟨p, vs, rfl, sq, r⟩ := getL_ok ok r e1
    have := strsOf_is e3
    subst this
    have := VRs.strs r
    subst this
    split at e4
    · cases e4
    · next y ys =>
      cases e4
      exact ⟨p, y, ys, rfl, sq, q _ _ _ (Step.refl _ _) ok (.str _)⟩
  · cases e
end
/-! ### d[k] -= n -/
def mDAugS (o i a : ME) : MS := fun env h => RsS (o env h) env fun od h1 => RsS (i env h1) env fun id h2 => match dDGet od id h2 with
  | some v => RsS (a env h2) env fun d h3 => match dSub v d h3 with
    | some z => match sDix od id z h3 with
      | some h4 => .nx env h4
      | none => .stuck
    | none => .stuck
  | none => .stuck
theorem s_daugS [Tbl] {X : Cx} {W : WX} {o i e : Expr} {mo mi me : ME} {tpos pos : Pos} (hu : X.A.units + 64 < cLine) (ho : PE X o (tE X.K X.mg W mo)) (hi : PE X i (tE X.K X.mg W mi)) (he : PE X e (tE X.K X.mg W me))
    (hst : ∀ u x n, augStore i u x n = (do holding [n, u, x] (setItem u x n); release [n, u, x] []; pure .next) := by intro _ _ _; rfl) :
    PS X (.AugAssign (.Subscript o i tpos) .Sub e pos) (tS X.K X.mg W (mDAugS mo mi me)) := PS.imp (ps_daug (by omega) ho hi he in_sub hst) fun D σ H ⟨w, env, h, ok, er, p⟩ =>
  ⟨w, env, h, ok, er, PostS.bind er p fun x od w1 H1 h1 s1 ok1 v1 p1 => ⟨w1, env, h1, ok1, er.mono s1, PostS.bind (er.mono s1) p1 fun y id w2 H2 h2 s2 ok2 v2 p2 => by
    cases e0 : dDGet od id h2 with
    | none => rw [e0] at p2; exact p2.elim
    | some v0 =>
      rw [e0] at p2
      obtain ⟨a, v, rfl, g, w3, s3, ok3, v3⟩ := s_dget w2 H2 h2 x y od id v0 (fun v H' => ∃ w', Step w2 H2 w' H' ∧ Ok X.K w' H' h2 ∧ VR X.K w' v v0) ok2 (v1.mono s2) v2 e0 fun v w' H' s ok r => ⟨w', s, ok, r⟩
      have er3 := ((er.mono s1).mono s2).mono s3
      refine ⟨a, v, rfl, g, w3, env, h2, ok3, er3, ?_⟩
      have p3 : PostS X.K X.mg w3 H2 (RsS (me env h2) env fun d h3 => match dSub v0 d h3 with
        | some z => match sDix od id z h3 with
          | some h4 => .nx env h4
          | none => .stuck
        | none => .stuck) D W := by
        have p2 : PostS X.K X.mg w2 H2 (RsS (me env h2) env fun d h3 => match dSub v0 d h3 with
          | some z => match sDix od id z h3 with
            | some h4 => .nx env h4
            | none => .stuck
          | none => .stuck) D W := p2
        revert p2
        cases RsS (me env h2) env fun d h3 => match dSub v0 d h3 with
          | some z => match sDix od id z h3 with
            | some h4 => .nx env h4
            | none => .stuck
          | none => .stuck with
        | nx e h => exact fun p σ w' H' s => p σ w' H' (s3.trans s)
        | rt d h => exact fun p v w' H' s => p v w' H' (s3.trans s)
        | bk e h => exact fun p σ w' H' s => p σ w' H' (s3.trans s)
        | ct e h => exact fun p σ w' H' s => p σ w' H' (s3.trans s)
        | er c fs e h => exact fun p cv d σ w' H' hc s => p cv d σ w' H' hc (s3.trans s)
        | stuck => exact fun p => p
      refine PostS.bind er3 p3 fun y2 d w4 H4 h4 s4 ok4 v4 p4 => ?_
      cases e1 : dSub v0 d h4 with
      | none => rw [e1] at p4; exact p4.elim
      | some z =>
        rw [e1] at p4
        obtain ⟨n, m, rfl, rfl, rfl⟩ : ∃ n m : Int, v0 = .int n ∧ d = .int m ∧ z = .int (n - m) := by
          unfold dSub at e1
          split at e1 <;> cases e1
          exact ⟨_, _, rfl, rfl, rfl⟩
        have v3' := v3.mono s4
        cases v3'
        cases v4
        refine ⟨n, m, rfl, rfl, ?_⟩
        cases e2 : sDix od id (.int (n - m)) h4 with
        | none => simp only [e2] at p4; exact p4.elim
        | some h5 =>
          simp only [e2] at p4
          unfold sDix at e2
          split at e2
          · next j k ek =>
            split at e2
            · next kvs ej =>
              split at e2
              · next hl =>
                cases e2
                have vy := (v2.mono s3).mono s4
                have q1 := keyD_ok vy ek
                subst q1
                obtain ⟨p, i2, vs, e8, e9, h1', h2', h3', r⟩ := getD_ok (ds := kvs) ok4 (((v1.mono s2).mono s3).mono s4) (by unfold getD; dsimp only; rw [ej])
                cases e9
                cases e8
                have rr := r.put (VR.int (n - m)) k
                refine ⟨_, DPut.k h3' (by rw [r.len]; exact hl), ?_⟩
                have zz := ok4.dwrite (by rw [h2']; exact fun _ z => nomatch z) h1' rr
                exact p4 σ w4 _ zz.2 zz.1 (er3.mono s4)
              · cases e2
            · cases e2
          · cases e2⟩⟩
/-! ### list.pop() -/
def gPop0 : D → List D → Hap → Rs D := fun a ds h => match a, ds with
  | .ref i, [] => match h[i]? with
    | some (.lst xs) => match xs[xs.length - 1]? with
      | some y => .ok y (h.set i (.lst xs.dropLast))
      | none => .stuck
    | _ => .stuck
  | _, _ => .stuck
theorem VRs.dropLast {K : PySem.W.Frag} {w : Wd} {vs : List V} {ds : List D} (r : VRs K w vs ds) : VRs K w vs.dropLast ds.dropLast := by
  rw [List.dropLast_eq_take, List.dropLast_eq_take, r.length]
  exact r.take _
theorem s_pop0 [Tbl] {K : PySem.W.Frag} {gm : Str → Option Value} : MetS K gm rPop gPop0 := by
  intro w H h x xs a ds Q E ok r1 r2 p
  unfold gPop0 at p
  split at p
  · next i =>
    split at p
    · next zs e1 =>
      split at p
      · next y ey =>
        cases r2
        cases r1
        next a e2 =>
        obtain ⟨_, o, e3, e4⟩ := ok.cel i a _ e2 e1
        cases o <;> simp [CRel] at e4
        next vs =>
        obtain ⟨u, eu, ru⟩ := e4.get' ey
        have q := ok.write (hn := by rw [e1]; exact fun _ z => nomatch z) (o := .lst vs.dropLast) (c := .lst zs.dropLast) e2 e4.dropLast
        exact ⟨a, vs, u, rfl, rfl, e3, by rw [e4.length]; exact eu, p _ _ _ q.2 q.1 (ru.mono q.2)⟩
      · exact p.elim
    · exact p.elim
  · exact p.elim
/-! ### name = sorted(list), the list changed later -/
noncomputable def mCelSo (a : MA) : ME := fun env h => (a env h).bind fun ds h1 => match ds with
  | [d] => match getL d h1 with
    | some xs => if Srt xs then .ok (.ref h1.length) (h1 ++ [.lst (xs.mergeSort leD)]) else .stuck
    | none => .stuck
  | _ => .stuck
theorem e_celSo [Tbl] {X : Cx} {W : WX} {e : Expr} {m : MA} {p pos : Pos} (hu : X.A.units + 64 < cLine) (hg : Gl X "sorted") (hm : X.mg "sorted" = none) (ha : PA X [e] (tA X.K X.mg W m))
    (he : starEach [e] X.env = (false, eval e X.env) :: starEach [] X.env := by rfl) (hpl : (backTo pos (starEach [] X.env)).any (·.1) = false := by rfl) : PE X (.Call (.Name "sorted" p) [e] [] pos) (tE X.K X.mg W (mCelSo m)) := PE.imp (pe_callB (cr_sortD hu) hg hm bl_sorted ha (by decide) (by decide) he hpl) fun σ H Q ⟨w, env, h, ok, er, pp⟩ =>
  ⟨w, env, h, ok, er, Post.bind pp fun vs ds w1 H1 h1 s1 ok1 v1 p1 => by
    split at p1
    · next d =>
      obtain ⟨x, rfl, r⟩ := vrs1 v1
      split at p1
      · next xs q =>
        split at p1
        · next hS =>
          obtain ⟨a, ys, rfl, h1', r1⟩ := getL_ok ok1 r q
          refine ⟨a, ys, xs, rfl, h1', r1.length, fun z m => ?_, hS.alike, hS.able, hS.deep, hS.few, fun l hl => ?_⟩
          · have m2 : z.2 ∈ xs := by
              rw [← zip_snd r1.length]
              exact List.mem_map.mpr ⟨z, m, rfl⟩
            exact VR.dp ok1.sub (r1.zip_ok z m) (hS.py _ m2)
          · have z := ok1.cell (c := .lst (xs.mergeSort leD)) (o := .lst (((ys.zip xs).mergeSort (PySem.W.dataLe false fun b => pyd b.2)).map Prod.fst)) hl (sort_vrs r1)
            refine p1 _ _ _ z.2 z.1 (.ref ?_)
            show (w1.ρ ++ [l])[h1.length]? = some l
            rw [← ok1.len, List.getElem?_append_right (Nat.le_refl _), Nat.sub_self]
            rfl
        · exact p1.elim
      · exact p1.elim
    · exact p1.elim⟩
theorem x_celSo {h : Hap} {env : Env} {a : MA} {P : D → Hap → Prop} (s : Sat (a env h) fun ds h1 => ∃ d xs, ds = [d] ∧ getL d h1 = some xs ∧ Srt xs ∧ P (.ref h1.length) (h1 ++ [.lst (xs.mergeSort leD)])) : Sat (mCelSo a env h) P := Sat.bind (s.mono fun ds h1 ⟨d, xs, e1, e2, e3, p⟩ => by
  subst e1
  simp only []
  rw [e2]
  simp only []
  rw [if_pos e3]
  exact p)
/-! ### a list as a test -/
def mTruL (a : ME) : MT := fun env h => (a env h).bind fun x h1 => match getL x h1 with
  | some xs => .ok (!xs.isEmpty) h1
  | none => .stuck
theorem VRs.empty {K : PySem.W.Frag} {w : Wd} {vs : List V} {ds : List D} (r : VRs K w vs ds) : vs.isEmpty = ds.isEmpty := by cases r <;> rfl
theorem c_truL [Tbl] {X : Cx} {W : WX} {e : Expr} {m : ME} (hp : PE X e (tE X.K X.mg W m)) (he : ∀ whole, isTrue e X.env whole = (do let v ← whole; standAt e.pos; holding [v] (truthy v)) := by intro _; rfl) : PT X e (tT X.K X.mg W (mTruL m)) := PT.imp (pt_truth hp he) fun σ H Q ⟨w, env, h, ok, er, p⟩ =>
  ⟨w, env, h, ok, er, Post.bind p fun x da w1 H1 h1 s1 ok1 v1 p1 => by
    cases q : getL da h1 with
    | none => rw [q] at p1; exact p1.elim
    | some xs =>
      rw [q] at p1
      obtain ⟨a, vs, rfl, sq, r⟩ := getL_ok ok1 v1 q
      exact ⟨!vs.isEmpty, .inl ⟨vs, sq, rfl⟩, p1 _ w1 H1 (Step.refl _ _) ok1 (by rw [r.empty]; rfl)⟩⟩
theorem x_truL {h : Hap} {env : Env} {a : ME} {P : Bool → Hap → Prop} (s : Sat (a env h) fun d h1 => ∃ xs, getL d h1 = some xs ∧ P (!xs.isEmpty) h1) : Sat (mTruL a env h) P := Sat.bind (s.mono fun d h1 ⟨xs, e, p⟩ => by
  rw [e]
  exact p)
/-! ### list.extend(list or tuple) -/
section
variable {prog : Program} {w : World} {A : Around} {E : Value → Shared → Prop} {s : Shared}
theorem extend_tup {l b : Addr} {its its2 : List Value} {n : Nat} {Q : Value → Shared → Prop} (g : s.heap.get? l = some { cls := .type "list", data := .seq its.toArray n }) (hb : IsTup s.heap b its2.toArray) (hz : its.length + its2.length ≤ sizeLine)
    (q : Q .none { s with heap := s.heap.update l (Obj.mapSeq (· ++ its2.toArray)) }) : wpAny (model prog w) A (call (.builtin "list.extend") [.ref l, .ref b]) Q E s := by
  obtain ⟨o, e, c, m, d⟩ := id hb
  refine wpAny_call_entry PySem.F.slot_list_extend ⟨_, g, rfl⟩ PySem.F.entry_list_extend ?_ (PySem.F.args_list_extend_2 _ _)
  refine wpAny_bind ?_
  refine wpAny_of_eq (show _ = pure (Value.ref l, Value.ref b) from rfl) ?_
  dsimp only
  refine wpAny_bind (wpAny_typeOf (T := "tuple") hb.typeIs ?_)
  rw [if_pos (by rw [show (Value.type "tuple" == Value.type "tuple") = true by decide, Bool.or_true])]
  refine wpAny_bind ?_
  refine wpAny_bind (wpAny_seqItems e d (wpAny_pure ?_))
  refine wpAny_bind ?_
  refine wpAny_bind (wpAny_seqItems g rfl (wpAny_pure ?_))
  have hsz : its.toArray.size + its2.toArray.size ≤ sizeLine := by rw [List.size_toArray, List.size_toArray]; exact hz
  dsimp only
  rw [if_neg (by rw [notLongL hsz, Bool.and_false]; exact Bool.false_ne_true)]
  refine wpAny_bind (show wpAny _ _ (updateSeq l fun x => x ++ its2.toArray) _ _ _ from wpAny_updateSeq g rfl (wpAny_pure ⟨_, rfl, q⟩) (by omega) (by rw [Array.size_append]; omega))
end
def rExtA (K : PySem.W.Frag) : V → List V → Hp → VK → Prop := fun x vs H Q => rExtend x vs H Q ∨ ∃ l b xs zs, x = .ref l ∧ vs = [.ref b] ∧ H l = some (.lst xs) ∧ SqT K H b zs ∧ xs.length + zs.length ≤ sizeLine ∧ Q .non (upd H l (.lst (xs ++ zs)))
theorem mt_extA {X : Cx} : MtM X "list.extend" (rExtA X.K) := by
  intro pins s σ H x vs v us Q I rx rv h
  rcases h with h | ⟨l, b, xs, zs, rfl, rfl, hH, hB, hz, q⟩
  · exact mt_extend pins s σ H x vs v us Q I rx rv h
  cases rx
  obtain ⟨u, rfl, ru⟩ := rv.one
  cases ru
  obtain ⟨z, its, n, r, hl, e⟩ := I.lstM hH
  obtain ⟨its2, r2, pl, z2⟩ := I.tuple hB
  have l2 := r2.length
  refine extend_tup e pl (by omega) ⟨.non, _, I.lset (its' := its ++ its2) hH e (by simp) (r.append r2) ?_, rfl, q⟩
  rw [List.length_append]
  omega
def gExtA : D → List D → Hap → Rs D := fun a ds h => match ds with
  | [.tup ys] => match a with
    | .ref i => match h[i]? with
      | some (.lst xs) => if xs.length + ys.length ≤ sizeLine then .ok .non (h.set i (.lst (xs ++ ys))) else .stuck
      | _ => .stuck
    | _ => .stuck
  | ds => gExtend a ds h
theorem s_extA [Tbl] {K : PySem.W.Frag} {gm : Str → Option Value} : MetS K gm (rExtA K) gExtA := by
  intro w H h x xs a ds Q E ok r1 r2 p
  unfold gExtA at p
  split at p
  · next ys =>
    split at p
    · next i =>
      split at p
      · next zs e1 =>
        split at p
        · next hl =>
          obtain ⟨v, rfl, r3⟩ := vrs1 r2
          cases r1
          next a e2 =>
          obtain ⟨_, o, e3, e4⟩ := ok.cel i a _ e2 e1
          cases o <;> simp [CRel] at e4
          next vs =>
          cases r3 with
          | tup hq r4 =>
            next us =>
            have q := ok.write (hn := by rw [e1]; exact fun _ z => nomatch z) (o := .lst (vs ++ us)) (c := .lst (zs ++ ys)) e2 (VRs.append e4 r4)
            exact .inr ⟨a, _, vs, us, rfl, rfl, e3, sqT_mono ok.sub hq, by rw [e4.length, r4.length]; exact hl, p _ _ _ q.2 q.1 .non⟩
        · exact p.elim
      · exact p.elim
    · exact p.elim
  · exact .inl (s_extend w H h x xs a ds Q E ok r1 r2 p)
end Vi

set_option Elab.async false
set_option linter.all false
set_option autoImplicit false
set_option maxRecDepth 100000
namespace Mi
open PySem PyProof.Rows L2 Vi
noncomputable section
def b_law_next : MS := (mSeq (mIfS (mTst (mBin dGt (mBin dIx (mVar 0) (mC (.int 1))) (mC (.int 0)))) (mSeq (mAsg (mBin dMod (mCB dInt (mCons (mBin dIx (mVar 0) (mC (.int 1))) mNil)) (mVar 2)) (gNm 3))
    (mSeq (mSub (mBin dDiv (mCB dInt (mCons (mBin dIx (mVar 0) (mC (.int 1))) mNil)) (mVar 2)) (mVar 0) (mC (.int 1)))
    (mRet (mVar 3)))) mNext)
    (mSeq (mAsg (mC (.int 0)) (gNm 4))
    (mSeq (mIfS (mTst (mBin dLt (mBin dIx (mVar 0) (mC (.int 0))) (mCB dLen (mCons (mVar 1) mNil)))) (mAsg (mCB dAbs (mCons (mCB dInt (mCons (mBin dIx (mVar 1) (mBin dIx (mVar 0) (mC (.int 0)))) mNil)) mNil)) (gNm 4)) mNext)
    (mSeq (mSub (mBin dAdd (mBin dIx (mVar 0) (mC (.int 0))) (mC (.int 1))) (mVar 0) (mC (.int 0)))
    (mSeq (mIfS (mTst (mBin dGe (mVar 4) (mBin dPow (mC (.int 10)) (mC (.int 18))))) (mSeq (mSub (mBin dDiv (mVar 4) (mVar 2)) (mVar 0) (mC (.int 1)))
    (mRet (mBin dMod (mCB dInt (mCons (mVar 4) mNil)) (mVar 2)))) mNext)
    (mSeq (mSub (mBin dMod (mCB dInt (mCons (mBin dAdd (mBin dAdd (mBin dMul (mBin dIx (mVar 0) (mC (.int 2))) (mC (.int 48271))) (mBin dMul (mVar 4) (mC (.int 69621)))) (mC (.int 12345))) mNil)) (mC (.int 2147483647))) (mVar 0) (mC (.int 2)))
    (mRet (mBin dMod (mCB dInt (mCons (mBin dAdd (mBin dDiv (mBin dIx (mVar 0) (mC (.int 2))) (mC (.int 7))) (mBin dDiv (mBin dMul (mBin dIx (mVar 0) (mC (.int 2))) (mBin dIx (mVar 0) (mC (.int 2)))) (mC (.int 65537)))) mNil)) (mVar 2)))))))))
def m_law_next : MF := run 5 b_law_next
def b_law_char : MS := (mSeq (mAsg (mC (.str " !\"#$&'()*+,-./0123456789:;<=>?@ABCDEFGHIJKLMNOPQRSTUVWXYZ[\\]^_`")) (gNm 1))
    (mSeq (mAsg (mBin dAdd (mVar 1) (mC (.str "abcdefghijklmnopqrstuvwxyz{|}~\n"))) (gNm 1))
    (mRet (mBin dIx (mVar 1) (mVar 0)))))
def m_law_char : MF := run 2 b_law_char
def b_law_words : MS := (mSeq (mAsg (mC (.str "")) (gNm 2))
    (mSeq (mFor (mRng rng1 (mCons (mCall Mi.m_law_next (mCons (mVar 0) (mCons (mVar 1) (mCons (mC (.int 7)) mNil)))) mNil)) (gNm 3) (mSeq (mAsg (mCall Mi.m_law_next (mCons (mVar 0) (mCons (mVar 1) (mCons (mC (.int 12)) mNil)))) (gNm 4))
    (mIfS (mTst (mBin dLt (mVar 4) (mC (.int 6)))) (mAsg (mBin dAdd (mVar 2) (mBin dIx (mLst (mCons (mC (.str "a")) (mCons (mC (.str "b")) (mCons (mC (.str "ab")) (mCons (mC (.str "\n")) (mCons (mC (.str " ")) (mCons (mC (.str "one\n")) mNil))))))) (mVar 4))) (gNm 2)) (mAsg (mBin dAdd (mVar 2) (mCall Mi.m_law_char (mCons (mCall Mi.m_law_next (mCons (mVar 0) (mCons (mVar 1) (mCons (mC (.int 95)) mNil)))) mNil))) (gNm 2)))))
    (mRet (mVar 2))))
def m_law_words : MF := run 5 b_law_words
def b_law_same (rc : MF) : MS := (mSeq (mIfS (mTst (mBin dIs (mVar 1) (mC .non))) (mRet (mBin dIs (mVar 0) (mC .non))) mNext)
    (mSeq (mIfS (mTst (mCB dIsi (mCons (mVar 1) (mCons (mC (.ty "tuple")) mNil)))) (mSeq (mIfS (mOrT (mNotT (mTst (mCB dIsi (mCons (mVar 0) (mCons (mC (.ty "tuple")) mNil))))) (mTst (mBin dNe (mCB dLen (mCons (mVar 0) mNil)) (mCB dLen (mCons (mVar 1) mNil))))) (mRet (mC (.bl false))) mNext)
    (mSeq (mFor (mRng rng1 (mCons (mCB dLen (mCons (mVar 1) mNil)) mNil)) (gNm 2) (mIfS (mNotT (mTst (mCall rc (mCons (mBin dIx (mVar 0) (mVar 2)) (mCons (mBin dIx (mVar 1) (mVar 2)) mNil))))) (mRet (mC (.bl false))) mNext))
    (mRet (mC (.bl true))))) mNext)
    (mSeq (mIfS (mTst (mCB dIsi (mCons (mVar 1) (mCons (mC (.ty "bool")) mNil)))) (mRet (mAnd (mCB dIsi (mCons (mVar 0) (mCons (mC (.ty "bool")) mNil))) (mBin dEq (mVar 0) (mVar 1)))) mNext)
    (mSeq (mIfS (mTst (mCB dIsi (mCons (mVar 1) (mCons (mC (.ty "int")) mNil)))) (mRet (mAnd (mCB dIsi (mCons (mVar 0) (mCons (mC (.ty "int")) mNil))) (mAnd (mNot (mCB dIsi (mCons (mVar 0) (mCons (mC (.ty "bool")) mNil)))) (mBin dEq (mVar 0) (mVar 1))))) mNext)
    (mRet (mAnd (mCB dIsi (mCons (mVar 0) (mCons (mC (.ty "str")) mNil))) (mBin dEq (mVar 0) (mVar 1))))))))
def mm_law_same : Nat → MF
  | 0 => fun _ _ => .stuck
  | n + 1 => run 3 (b_law_same (mm_law_same n))
def m_law_same : MF := mm_law_same 12
def b_law_tool : MS := (mSeq (mAsg (mLst (mCons (mC (.str "join")) (mCons (mC (.str "pick")) (mCons (mC (.str "sort")) (mCons (mC (.str "head")) (mCons (mC (.str "swap")) (mCons (mC (.str "upper")) (mCons (mC (.str "count")) (mCons (mC (.str "same")) (mCons (mC (.str "need")) (mCons (mC (.str "tool")) mNil))))))))))) (gNm 2))
    (mRet (mBin dIx (mVar 2) (mCall Mi.m_law_next (mCons (mVar 0) (mCons (mVar 1) (mCons (mC (.int 10)) mNil)))))))
def m_law_tool : MF := run 3 b_law_tool
def b_turned_round : MS := (mSeq (mLokS (gVr 0) (mAsg (mDComp (mIK 0) [2] (gNm 2) mYes (mVar 2) (mCel mNil)) (gNm 1)))
    (mSeq (mLokS (gVr 0) (mFor (mIKy (mVar 0)) (gNm 2) (mFor (mI (mBin dDGetL (mVar 0) (mVar 2))) (gNm 3) (mExp (mMet "list" gAppend (mMet "dict" gSetd (mVar 1) (mCons (mVar 3) (mCons (mCel mNil) mNil))) (mCons (mVar 2) mNil))))))
    (mRet (mVar 1))))
def m_turned_round : MF := run 4 b_turned_round
def b_reached : MS := (mSeq (mAsg mDNew (gNm 2))
    (mSeq (mAsg (mCelL (mCons (mVar 1) mNil)) (gNm 3))
    (mSeq (mWh 100000 (mTruL (mVar 3)) (mSeq (mAsg (mMet "list" gPop0 (mVar 3) mNil) (gNm 4))
    (mIfS (mTst (mBin dDNotIn (mVar 4) (mVar 2))) (mSeq (mDSub (mC (.bl true)) (mVar 2) (mVar 4))
    (mExp (mMet "list" gExtA (mVar 3) (mCons (mMet "dict" (gP dGet2) (mVar 0) (mCons (mVar 4) (mCons (mTup mNil) mNil))) mNil)))) mNext)))
    (mRet (mVar 2)))))
def m_reached : MF := run 5 b_reached
def b_law_graph : MS := (mSeq (mAsg (mCel mNil) (gNm 1))
    (mSeq (mFor (mI (mVar 0)) (gNm 2) (mSeq (mAsg (mBin dAdd (mComp (mI (mBin dIx (mVar 2) (mC (.int 3)))) [4] (gNm 4) mYes (mTup (mCons (mC (.str "source")) (mCons (mVar 4) mNil)))) (mComp (mI (mBin dIx (mVar 2) (mC (.int 4)))) [5] (gNm 5) mYes (mTup (mCons (mC (.str "target")) (mCons (mVar 5) mNil))))) (gNm 3))
    (mExp (mMet "list" gAppend (mVar 1) (mCons (mTup (mCons (mBin dIx (mVar 2) (mC (.int 0))) (mCons (mBin dIx (mVar 2) (mC (.int 1))) (mCons (mBin dIx (mVar 2) (mC (.int 2))) (mCons (mCB dTupleOf (mCons (mVar 3) mNil)) mNil))))) mNil)))))
    (mRet (mCB dTupleOf (mCons (mCB dSortK0 (mCons (mVar 1) mNil)) mNil)))))
def m_law_graph : MF := run 6 b_law_graph
def b_law_needs : MS := (mSeq (mFor (mI (mVar 0)) (gNm 2) (mIfS (mTst (mBin dEq (mBin dIx (mVar 2) (mC (.int 0))) (mVar 1))) (mRet (mComp (mI (mBin dIx (mVar 2) (mC (.int 3)))) [3] (gNm 3) (mTst (mBin dEq (mBin dIx (mVar 3) (mC (.int 0))) (mC (.str "target")))) (mBin dIx (mVar 3) (mC (.int 1))))) mNext))
    (mRet (mLst mNil)))
def m_law_needs : MF := run 4 b_law_needs
def b_ordered : MS := (mSeq (mAsg (mCall Mi.m_turned_round (mCons (mVar 0) mNil)) (gNm 1))
    (mSeq (mAsg (mLokG (gVr 0) (mDComp (mIK 0) [5] (gNm 5) mYes (mVar 5) (mCB dLen (mCons (mBin dDGetL (mVar 0) (mVar 5)) mNil)))) (gNm 2))
    (mSeq (mAsg (mCelSo (mCons (mLokE 0 (mComp (mIK 0) [5] (gNm 5) (mTst (mBin dEq (mBin dDGet (mVar 2) (mVar 5)) (mC (.int 0)))) (mVar 5))) mNil)) (gNm 3))
    (mSeq (mAsg (mCel mNil) (gNm 4))
    (mSeq (mWh 100000 (mTruL (mVar 3)) (mSeq (mAsg (mCBw gHPop (mCons (mVar 3) mNil)) (gNm 5))
    (mSeq (mExp (mMet "list" gAppend (mVar 4) (mCons (mVar 5) mNil)))
    (mFor (mI (mBin dDGet (mVar 1) (mVar 5))) (gNm 6) (mSeq (mDAugS (mVar 2) (mVar 6) (mC (.int 1)))
    (mIfS (mTst (mBin dEq (mBin dDGet (mVar 2) (mVar 6)) (mC (.int 0)))) (mExp (mCBw gHPush (mCons (mVar 3) (mCons (mVar 6) mNil)))) mNext))))))
    (mRet (mVar 4)))))))
def m_ordered : MF := run 7 b_ordered
def b_law_labels : MS := (mSeq (mAsg (mCel mNil) (gNm 3))
    (mSeq (mFor (mRng rng1 (mCons (mVar 2) mNil)) (gNm 4) (mSeq (mAsg (mBin dIx (mLst (mCons (mC (.str "")) (mCons (mC (.str "")) (mCons (mC (.str "a")) (mCons (mC (.str "lib")) (mCons (mC (.str "a/b")) mNil)))))) (mCall Mi.m_law_next (mCons (mVar 0) (mCons (mVar 1) (mCons (mC (.int 5)) mNil))))) (gNm 5))
    (mSeq (mAsg (mBin dIx (mC (.str "abcdefghijkl")) (mCall Mi.m_law_next (mCons (mVar 0) (mCons (mVar 1) (mCons (mC (.int 12)) mNil))))) (gNm 6))
    (mSeq (mAsg (mBin dAdd (mBin dAdd (mBin dAdd (mC (.str "//")) (mVar 5)) (mC (.str ":"))) (mVar 6)) (gNm 7))
    (mIfS (mTst (mBin dNotIn (mVar 7) (mVar 3))) (mExp (mMet "list" gAppend (mVar 3) (mCons (mVar 7) mNil))) mNext)))))
    (mRet (mVar 3))))
def m_law_labels : MF := run 8 b_law_labels
def b_law_reach : MS := (mSeq (mAsg (mComp (mI (mVar 0)) [7] (gNm 7) mYes (mBin dIx (mVar 7) (mC (.int 0)))) (gNm 2))
    (mSeq (mAsg (mCel mNil) (gNm 3))
    (mSeq (mFor (mI (mVar 1)) (gNm 4) (mIfS (mAndT (mTst (mBin dIn (mVar 4) (mVar 2))) (mTst (mBin dNotIn (mVar 4) (mVar 3)))) (mExp (mMet "list" gAppend (mVar 3) (mCons (mVar 4) mNil))) mNext))
    (mSeq (mFor (mRng rng1 (mCons (mCB dLen (mCons (mVar 0) mNil)) mNil)) (gNm 5) (mIfS (mTst (mBin dLt (mVar 5) (mCB dLen (mCons (mVar 3) mNil)))) (mFor (mI (mCall Mi.m_law_needs (mCons (mVar 0) (mCons (mBin dIx (mVar 3) (mVar 5)) mNil)))) (gNm 6) (mIfS (mTst (mBin dNotIn (mVar 6) (mVar 3))) (mExp (mMet "list" gAppend (mVar 3) (mCons (mVar 6) mNil))) mNext)) mNext))
    (mRet (mVar 3))))))
def m_law_reach : MF := run 8 b_law_reach
def b_law_args : MS := (mSeq (mAsg (mMet "dict" (gP dGet2) (mDisp ["join", "pick", "head", "need", "swap"] [(mC (.int 1)), (mC (.int 1)), (mC (.int 1)), (mC (.int 1)), (mC (.int 2))]) (mCons (mVar 2) (mCons (mC (.int 0)) mNil))) (gNm 3))
    (mSeq (mIfS (mTst (mBin dEq (mCall Mi.m_law_next (mCons (mVar 0) (mCons (mVar 1) (mCons (mC (.int 8)) mNil)))) (mC (.int 0)))) (mAsg (mCall Mi.m_law_next (mCons (mVar 0) (mCons (mVar 1) (mCons (mC (.int 4)) mNil)))) (gNm 3)) mNext)
    (mSeq (mAsg (mCel mNil) (gNm 4))
    (mSeq (mFor (mRng rng1 (mCons (mVar 3) mNil)) (gNm 5) (mSeq (mAsg (mMet "str" (gP dJoin) (mC (.str "")) (mCons (mComp (mI (mSl (mCall Mi.m_law_words (mCons (mVar 0) (mCons (mVar 1) mNil))) mNoP (mPart (mC (.int 6))))) [7] (gNm 7) (mTst (mBin dNe (mVar 7) (mC (.str "\n")))) (mVar 7)) mNil)) (gNm 6))
    (mSeq (mIfS (mAndT (mTst (mBin dEq (mVar 2) (mC (.str "head")))) (mTst (mBin dGt (mCall Mi.m_law_next (mCons (mVar 0) (mCons (mVar 1) (mCons (mC (.int 6)) mNil)))) (mC (.int 0))))) (mAsg (mCB dStr (mCons (mCall Mi.m_law_next (mCons (mVar 0) (mCons (mVar 1) (mCons (mC (.int 12)) mNil)))) mNil)) (gNm 6)) mNext)
    (mExp (mMet "list" gAppend (mVar 4) (mCons (mVar 6) mNil))))))
    (mRet (mCB dTupleOf (mCons (mVar 4) mNil)))))))
def m_law_args : MF := run 8 b_law_args
def b_law_targets : MS := (mSeq (mAsg (mCall Mi.m_law_labels (mCons (mVar 0) (mCons (mVar 1) (mCons (mVar 2) mNil)))) (gNm 3))
    (mSeq (mAsg (mCel mNil) (gNm 4))
    (mSeq (mFor (mRng rng1 (mCons (mCB dLen (mCons (mVar 3) mNil)) mNil)) (gNm 5) (mSeq (mAsg (mCall Mi.m_law_tool (mCons (mVar 0) (mCons (mVar 1) mNil))) (gNm 6))
    (mSeq (mAsg (mCall Mi.m_law_args (mCons (mVar 0) (mCons (mVar 1) (mCons (mVar 6) mNil)))) (gNm 7))
    (mSeq (mAsg (mCB dTupleOf (mCons (mComp (mRng rng1 (mCons (mCall Mi.m_law_next (mCons (mVar 0) (mCons (mVar 1) (mCons (mC (.int 3)) mNil)))) mNil)) [10] (gNm 10) mYes (mBin dIx (mLst (mCons (mC (.str "x")) (mCons (mC (.str "y")) (mCons (mC (.str "f/z")) (mCons (mC (.str "w")) mNil))))) (mCall Mi.m_law_next (mCons (mVar 0) (mCons (mVar 1) (mCons (mC (.int 4)) mNil)))))) mNil)) (gNm 8))
    (mSeq (mAsg (mTup mNil) (gNm 9))
    (mSeq (mIfS (mTst (mBin dGt (mVar 5) (mC (.int 0)))) (mAsg (mCB dTupleOf (mCons (mComp (mRng rng1 (mCons (mCall Mi.m_law_next (mCons (mVar 0) (mCons (mVar 1) (mCons (mC (.int 4)) mNil)))) mNil)) [10] (gNm 10) mYes (mBin dIx (mVar 3) (mCall Mi.m_law_next (mCons (mVar 0) (mCons (mVar 1) (mCons (mVar 5) mNil)))))) mNil)) (gNm 9)) mNext)
    (mExp (mMet "list" gAppend (mVar 4) (mCons (mTup (mCons (mBin dIx (mVar 3) (mVar 5)) (mCons (mVar 6) (mCons (mVar 7) (mCons (mVar 8) (mCons (mVar 9) mNil)))))) mNil)))))))))
    (mRet (mVar 4)))))
def m_law_targets : MF := run 11 b_law_targets
def b_action_from : MS := (mSeq (mAsg (mVar 0) (gTp 5 (gsCons (gNm 1) (gsCons (gNm 2) (gsCons (gNm 3) (gsCons (gNm 4) (gsCons (gNm 5) gsNil)))))))
    (mSeq (mAsg (mBin dAdd (mComp (mI (mVar 4)) [7] (gNm 7) mYes (mTup (mCons (mC (.str "source")) (mCons (mVar 7) mNil)))) (mComp (mI (mVar 5)) [8] (gNm 8) mYes (mTup (mCons (mC (.str "target")) (mCons (mVar 8) mNil))))) (gNm 6))
    (mRet (mTup (mCons (mVar 1) (mCons (mVar 2) (mCons (mVar 3) (mCons (mCB dTupleOf (mCons (mVar 6) mNil)) mNil))))))))
def m_action_from : MF := run 9 b_action_from
def b_law_chain : MS := (mSeq (mAsg (mCel mNil) (gNm 2))
    (mSeq (mFor (mRng rng1 (mCons (mVar 0) mNil)) (gNm 3) (mSeq (mAsg (mTup (mCons (mBin dAdd (mC (.str "//z:t")) (mCB dStr (mCons (mBin dAdd (mVar 3) (mC (.int 1))) mNil))) mNil)) (gNm 4))
    (mSeq (mIfS (mTst (mBin dEq (mVar 3) (mBin dSub (mVar 0) (mC (.int 1))))) (mAsg (mBin dIx (mLst (mCons (mTup (mCons (mC (.str "//z:t0")) mNil)) (mCons (mTup mNil) mNil))) (mVar 1)) (gNm 4)) mNext)
    (mExp (mMet "list" gAppend (mVar 2) (mCons (mTup (mCons (mBin dAdd (mC (.str "//z:t")) (mCB dStr (mCons (mVar 3) mNil))) (mCons (mC (.str "join")) (mCons (mTup mNil) (mCons (mTup mNil) (mCons (mVar 4) mNil)))))) mNil))))))
    (mRet (mVar 2))))
def m_law_chain : MF := run 5 b_law_chain
def b_law_shuffled : MS := (mSeq (mAsg (mCelL (mCons (mVar 2) mNil)) (gNm 3))
    (mSeq (mAsg (mCel mNil) (gNm 4))
    (mSeq (mFor (mRng rng1 (mCons (mCB dLen (mCons (mVar 2) mNil)) mNil)) (gNm 5) (mExp (mMet "list" gAppend (mVar 4) (mCons (mMet "list" gPopAt (mVar 3) (mCons (mCall Mi.m_law_next (mCons (mVar 0) (mCons (mVar 1) (mCons (mCB dLen (mCons (mVar 3) mNil)) mNil)))) mNil)) mNil))))
    (mRet (mVar 4)))))
def m_law_shuffled : MF := run 6 b_law_shuffled
def b_least_in_cycle_2 : MS := (mSeq (mAsg (mDComp (mI (mCall Mi.m_ordered (mCons (mVar 0) mNil))) [2] (gNm 2) mYes (mVar 2) (mC (.bl true))) (gNm 1))
    (mSeq (mFor (mI (mCB dSortKs (mCons (mVar 0) mNil))) (gNm 2) (mIfS (mAndT (mTst (mBin dDNotIn (mVar 2) (mVar 1))) (mTst (mBin dDIn (mVar 2) (mCall Mi.m_reached (mCons (mVar 0) (mCons (mBin dDGet (mVar 0) (mVar 2)) mNil)))))) (mRet (mVar 2)) mNext))
    (mRet (mC .non))))
def m_least_in_cycle_2 : MF := run 3 b_least_in_cycle_2
def b_law_due_8 : MS := (mSeq (mAsg (mCB dSorted (mCons (mComp (mI (mVar 0)) [4] (gNm 4) mYes (mBin dIx (mVar 4) (mC (.int 0)))) mNil)) (gNm 1))
    (mSeq (mAsg (mComp (mI (mVar 1)) [7] (gNm 7) (mTst (mBin dGt (mMet "list" (gP dCntT) (mVar 1) (mCons (mVar 7) mNil)) (mC (.int 1)))) (mVar 7)) (gNm 2))
    (mSeq (mIfS (mTst (mBin dGt (mCB dLen (mCons (mVar 2) mNil)) (mC (.int 0)))) (mRet (mTup (mCons (mBin dIx (mVar 2) (mC (.int 0))) (mCons (mC (.str "duplicate")) mNil)))) mNext)
    (mSeq (mAsg (mCel mNil) (gNm 3))
    (mSeq (mFor (mI (mVar 0)) (gNm 4) (mIfS (mTst (mBin dGt (mCB dLen (mCons (mComp (mI (mBin dIx (mVar 4) (mC (.int 4)))) [8] (gNm 8) (mTst (mBin dNotIn (mVar 8) (mVar 1))) (mC (.int 1))) mNil)) (mC (.int 0)))) (mExp (mMet "list" gAppend (mVar 3) (mCons (mBin dIx (mVar 4) (mC (.int 0))) mNil))) mNext))
    (mSeq (mIfS (mTst (mBin dGt (mCB dLen (mCons (mVar 3) mNil)) (mC (.int 0)))) (mRet (mTup (mCons (mCB dMinS (mCons (mVar 3) mNil)) (mCons (mC (.str "unknown")) mNil)))) mNext)
    (mSeq (mAsg (mCall Mi.m_law_graph (mCons (mVar 0) mNil)) (gNm 5))
    (mSeq (mAsg (mComp (mI (mVar 1)) [7] (gNm 7) (mTst (mBin dIn (mVar 7) (mCall Mi.m_law_reach (mCons (mVar 5) (mCons (mCall Mi.m_law_needs (mCons (mVar 5) (mCons (mVar 7) mNil))) mNil))))) (mVar 7)) (gNm 6))
    (mSeq (mIfS (mTst (mBin dGt (mCB dLen (mCons (mVar 6) mNil)) (mC (.int 0)))) (mRet (mTup (mCons (mBin dIx (mVar 6) (mC (.int 0))) (mCons (mC (.str "cycle")) mNil)))) mNext)
    (mSeq (mIfS (mTst (mBin dGt (mCB dLen (mCons (mVar 0) mNil)) (mC (.int 60)))) (mRet (mTup (mCons (mBin dIx (mVar 1) (mC (.int 0))) (mCons (mC (.str "size")) mNil)))) mNext)
    (mRet (mC .non))))))))))))
def m_law_due_8 : MF := run 9 b_law_due_8
def b_make_graph_2 : MS := (mSeq (mAsg (mCB dSorted (mCons (mComp (mI (mVar 0)) [6] (gNm 6) mYes (mBin dIx (mVar 6) (mC (.int 0)))) mNil)) (gNm 1))
    (mSeq (mFor (mZp (mCons (mVar 1) (mCons (mSl (mVar 1) (mPart (mC (.int 1))) mNoP) mNil))) (gTp 2 (gsCons (gNm 2) (gsCons (gNm 3) gsNil))) (mIfS (mTst (mBin dEq (mVar 2) (mVar 3))) (mRaiseF "GraphProblem" ["label", "reason"] (mCons (mVar 3) (mCons (mC (.str "duplicate")) mNil))) mNext))
    (mSeq (mAsg (mDComp (mI (mVar 0)) [6] (gNm 6) mYes (mBin dIx (mVar 6) (mC (.int 0))) (mBin dIx (mVar 6) (mC (.int 4)))) (gNm 4))
    (mSeq (mFor (mI (mVar 1)) (gNm 3) (mIfS (mTst (mCB dAny (mCons (mComp (mI (mBin dDGet (mVar 4) (mVar 3))) [7] (gNm 7) mYes (mBin dDNotIn (mVar 7) (mVar 4))) mNil))) (mRaiseF "GraphProblem" ["label", "reason"] (mCons (mVar 3) (mCons (mC (.str "unknown")) mNil))) mNext))
    (mSeq (mAsg (mCall Mi.m_least_in_cycle_2 (mCons (mVar 4) mNil)) (gNm 5))
    (mSeq (mIfS (mTst (mBin dIsNot (mVar 5) (mC .non))) (mRaiseF "GraphProblem" ["label", "reason"] (mCons (mVar 5) (mCons (mC (.str "cycle")) mNil))) mNext)
    (mSeq (mIfS (mTst (mBin dGt (mCB dLen (mCons (mVar 1) mNil)) (mC (.int 60)))) (mRaiseF "GraphProblem" ["label", "reason"] (mCons (mBin dIx (mVar 1) (mC (.int 0))) (mCons (mC (.str "size")) mNil))) mNext)
    (mRet (mCB dTupleOf (mCons (mCB dSortK0 (mCons (mComp (mI (mVar 0)) [6] (gNm 6) mYes (mCall Mi.m_action_from (mCons (mVar 6) mNil))) mNil)) mNil))))))))))
def m_make_graph_2 : MF := run 8 b_make_graph_2
def b_law_35 : MS := (mSeq (mAsg (mCel (mCons (mC (.int 0)) (mCons (mC (.int 0)) (mCons (mC (.int 1)) mNil)))) (gNm 1))
    (mSeq (mAsg (mCall Mi.m_law_targets (mCons (mVar 1) (mCons (mVar 0) (mCons (mBin dAdd (mC (.int 1)) (mCall Mi.m_law_next (mCons (mVar 1) (mCons (mVar 0) (mCons (mC (.int 12)) mNil))))) mNil)))) (gNm 2))
    (mSeq (mAsg (mCall Mi.m_law_next (mCons (mVar 1) (mCons (mVar 0) (mCons (mC (.int 7)) mNil)))) (gNm 3))
    (mSeq (mAsg (mCall Mi.m_law_next (mCons (mVar 1) (mCons (mVar 0) (mCons (mCB dLen (mCons (mVar 2) mNil)) mNil)))) (gNm 4))
    (mSeq (mIfS (mTst (mBin dLt (mVar 3) (mC (.int 2)))) (mSeq (mAsg (mBin dIx (mVar 2) (mVar 4)) (gNm 5))
    (mSeq (mAsg (mBin dIx (mBin dIx (mVar 2) (mCall Mi.m_law_next (mCons (mVar 1) (mCons (mVar 0) (mCons (mCB dLen (mCons (mVar 2) mNil)) mNil))))) (mC (.int 0))) (gNm 6))
    (mSub (mTup (mCons (mBin dIx (mVar 5) (mC (.int 0))) (mCons (mBin dIx (mVar 5) (mC (.int 1))) (mCons (mBin dIx (mVar 5) (mC (.int 2))) (mCons (mBin dIx (mVar 5) (mC (.int 3))) (mCons (mBin dAdd (mBin dIx (mVar 5) (mC (.int 4))) (mTup (mCons (mVar 6) mNil))) mNil)))))) (mVar 2) (mVar 4)))) mNext)
    (mSeq (mIfS (mOrT (mTst (mBin dEq (mVar 3) (mC (.int 2)))) (mTst (mBin dEq (mVar 3) (mC (.int 3))))) (mSeq (mAsg (mBin dIx (mVar 2) (mVar 4)) (gNm 5))
    (mSub (mTup (mCons (mBin dIx (mVar 5) (mC (.int 0))) (mCons (mBin dIx (mVar 5) (mC (.int 1))) (mCons (mBin dIx (mVar 5) (mC (.int 2))) (mCons (mBin dIx (mVar 5) (mC (.int 3))) (mCons (mBin dAdd (mTup (mCons (mBin dAdd (mC (.str "//no:")) (mBin dIx (mBin dIx (mVar 5) (mC (.int 0))) (mUn dNeg (mC (.int 1))))) mNil)) (mBin dIx (mVar 5) (mC (.int 4)))) mNil)))))) (mVar 2) (mVar 4))) mNext)
    (mSeq (mIfS (mOrT (mTst (mBin dEq (mVar 3) (mC (.int 3)))) (mTst (mBin dEq (mVar 3) (mC (.int 4))))) (mSeq (mAsg (mBin dIx (mVar 2) (mCall Mi.m_law_next (mCons (mVar 1) (mCons (mVar 0) (mCons (mCB dLen (mCons (mVar 2) mNil)) mNil))))) (gNm 5))
    (mSeq (mExp (mMet "list" gAppend (mVar 2) (mCons (mTup (mCons (mBin dIx (mVar 5) (mC (.int 0))) (mCons (mC (.str "join")) (mCons (mTup mNil) (mCons (mTup mNil) (mCons (mTup mNil) mNil)))))) mNil)))
    (mIfS (mTst (mBin dEq (mCall Mi.m_law_next (mCons (mVar 1) (mCons (mVar 0) (mCons (mC (.int 3)) mNil)))) (mC (.int 0)))) (mSeq (mAsg (mBin dIx (mVar 2) (mCall Mi.m_law_next (mCons (mVar 1) (mCons (mVar 0) (mCons (mCB dLen (mCons (mVar 2) mNil)) mNil))))) (gNm 5))
    (mExp (mMet "list" gAppend (mVar 2) (mCons (mTup (mCons (mBin dIx (mVar 5) (mC (.int 0))) (mCons (mC (.str "sort")) (mCons (mTup mNil) (mCons (mTup mNil) (mCons (mTup mNil) mNil)))))) mNil)))) mNext))) mNext)
    (mSeq (mIfS (mAndT (mTst (mBin dEq (mVar 3) (mC (.int 5)))) (mTst (mBin dEq (mCall Mi.m_law_next (mCons (mVar 1) (mCons (mVar 0) (mCons (mC (.int 4)) mNil)))) (mC (.int 0))))) (mSeq (mAsg (mBin dAdd (mC (.int 59)) (mCall Mi.m_law_next (mCons (mVar 1) (mCons (mVar 0) (mCons (mC (.int 4)) mNil))))) (gNm 7))
    (mSeq (mAsg (mCompC (mRng rng1 (mCons (mVar 7) mNil)) [15] (gNm 15) mYes (mTup (mCons (mBin dAdd (mC (.str "//z:t")) (mCB dStr (mCons (mVar 15) mNil))) (mCons (mC (.str "join")) (mCons (mTup mNil) (mCons (mTup mNil) (mCons (mTup mNil) mNil))))))) (gNm 2))
    (mSeq (mAsg (mCall Mi.m_law_next (mCons (mVar 1) (mCons (mVar 0) (mCons (mVar 7) mNil)))) (gNm 4))
    (mSeq (mAsg (mBin dIx (mLst (mCons (mTup mNil) (mCons (mTup mNil) (mCons (mTup (mCons (mC (.str "//z:none")) mNil)) (mCons (mTup (mCons (mBin dAdd (mC (.str "//z:t")) (mCB dStr (mCons (mVar 4) mNil))) mNil)) mNil))))) (mCall Mi.m_law_next (mCons (mVar 1) (mCons (mVar 0) (mCons (mC (.int 4)) mNil))))) (gNm 8))
    (mSeq (mSub (mTup (mCons (mBin dAdd (mC (.str "//z:t")) (mCB dStr (mCons (mVar 4) mNil))) (mCons (mC (.str "join")) (mCons (mTup mNil) (mCons (mTup mNil) (mCons (mVar 8) mNil)))))) (mVar 2) (mVar 4))
    (mSeq (mIfS (mTst (mBin dEq (mCall Mi.m_law_next (mCons (mVar 1) (mCons (mVar 0) (mCons (mC (.int 3)) mNil)))) (mC (.int 0)))) (mAsg (mCall Mi.m_law_chain (mCons (mVar 7) (mCons (mCall Mi.m_law_next (mCons (mVar 1) (mCons (mVar 0) (mCons (mC (.int 2)) mNil)))) mNil))) (gNm 2)) mNext)
    (mIfS (mTst (mBin dEq (mCall Mi.m_law_next (mCons (mVar 1) (mCons (mVar 0) (mCons (mC (.int 4)) mNil)))) (mC (.int 0)))) (mExp (mMet "list" gAppend (mVar 2) (mCons (mBin dIx (mVar 2) (mCall Mi.m_law_next (mCons (mVar 1) (mCons (mVar 0) (mCons (mVar 7) mNil))))) mNil))) mNext))))))) mNext)
    (mSeq (mFor (mRng rng1 (mCons (mBin dIx (mLst (mCons (mC (.int 0)) (mCons (mC (.int 0)) (mCons (mC (.int 0)) (mCons (mC (.int 1)) (mCons (mC (.int 2)) mNil)))))) (mCall Mi.m_law_next (mCons (mVar 1) (mCons (mVar 0) (mCons (mC (.int 5)) mNil))))) mNil)) (gNm 9) (mSeq (mAsg (mCall Mi.m_law_next (mCons (mVar 1) (mCons (mVar 0) (mCons (mCB dLen (mCons (mVar 2) mNil)) mNil)))) (gNm 4))
    (mSeq (mAsg (mBin dIx (mVar 2) (mVar 4)) (gNm 5))
    (mSub (mTup (mCons (mBin dIx (mVar 5) (mC (.int 0))) (mCons (mBin dIx (mVar 5) (mC (.int 1))) (mCons (mBin dIx (mVar 5) (mC (.int 2))) (mCons (mBin dIx (mVar 5) (mC (.int 3))) (mCons (mBin dAdd (mBin dIx (mVar 5) (mC (.int 4))) (mTup (mCons (mBin dAdd (mC (.str "//no:")) (mBin dIx (mBin dIx (mVar 5) (mC (.int 0))) (mUn dNeg (mC (.int 1))))) mNil))) mNil)))))) (mVar 2) (mVar 4)))))
    (mSeq (mAsg (mCall Mi.m_law_shuffled (mCons (mVar 1) (mCons (mVar 0) (mCons (mVar 2) mNil)))) (gNm 10))
    (mSeq (mAsg (mCB dListOf (mCons (mVar 10) mNil)) (gNm 11))
    (mSeq (mAsg (mCall Mi.m_law_due_8 (mCons (mVar 2) mNil)) (gNm 12))
    (mSeq (mTryAs ["GraphProblem"] [] 14 (mAsg (mCall Mi.m_make_graph_2 (mCons (mVar 10) mNil)) (gNm 13)) (fun _ fs => (mSeq (mIfS (mOrT (mTst (mBin dIs (mVar 12) (mC .non))) (mNotT (mTst (mC (.bl true))))) (mRet (mC (.bl false))) mNext) (mRet (mAnd (mCall Mi.m_law_same (mCons (mTup (mCons (mXf fs "label") (mCons (mXf fs "reason") mNil))) (mCons (mVar 12) mNil))) (mBin dEq (mVar 10) (mVar 11)))))))
    (mRet (mAnd (mBin dIs (mVar 12) (mC .non)) (mAnd (mCall Mi.m_law_same (mCons (mVar 13) (mCons (mCall Mi.m_law_graph (mCons (mVar 2) mNil)) mNil))) (mBin dEq (mVar 10) (mVar 11))))))))))))))))))
def m_law_35 : MF := run 16 b_law_35
end
end Mi

set_option Elab.async false
set_option linter.all false
set_option autoImplicit false
set_option maxRecDepth 100000
set_option maxHeartbeats 1000000
namespace Vi
open PySem PySem.Spec PyProof.Rows L2
open scoped Classical
local macro_rules | `(tactic| walk_at "x1") => `(tactic| with_reducible first
  | refine x_bin ?_ | refine x_tst ?_ | refine x_oB ?_ | refine x_c ?_ | refine s_seqA ?_ | refine s_seqU ?_ | refine s_seqE ?_ | refine s_seqN ?_ | refine s_asg' ?_ | refine s_if' ?_ | refine s_ret' ?_ | refine s_exp' ?_ | refine s_next ?_ | refine s_retN' ?_ | refine s_sub' ?_
  | refine x_cb ?_ | refine x_cons ?_ | refine x_nil ?_ | refine x_call ?_ | refine x_met ?_ | refine x_un ?_ | refine x_notT ?_ | refine x_andT ?_ | refine x_orT ?_ | refine x_and ?_ | refine x_or ?_ | refine x_not ?_ | refine x_if ?_
  | refine x_tup ?_ | refine x_lst ?_ | refine x_cel ?_ | refine x_sl ?_ | refine x_noP ?_ | refine x_part ?_ | refine x_oI ?_ | refine x_mI ?_ | refine x_rng ?_ | refine x_yes ?_ | refine x_fun ?_ | refine x_ok ?_)
local macro_rules | `(tactic| walk_at "x2") => `(tactic| first
  | ((with_reducible refine y_var ?_); refine ⟨_, rfl, ?_⟩)
  | ((with_reducible refine y_some ?_); refine ⟨_, rfl, ?_⟩)
  | ((with_reducible refine y_gP ?_); refine ⟨_, rfl, ?_⟩))
local macro_rules | `(tactic| walk_at "x3") => `(tactic| first
  | ((with_reducible refine v_mod ?_ ?_); (first | decide | omega))
  | ((with_reducible refine v_pow ?_ ?_); exact ⟨by decide, by decide, by decide⟩))
local macro_rules | `(tactic| walk_at "x") => `(tactic| repeat (first | walk_at "x1" | walk_at "x2" | walk_at "x3" ))
/-! ### the drawing of numbers -/
def stc (a b c : Int) : Cel := .lst [.int a, .int b, .int c]
/-- the state of the draws stands in the first cell, t behind it -/
def St (t h : Hap) : Prop := ∃ a b c, h = stc a b c :: t ∧ 0 ≤ a ∧ 0 ≤ c ∧ c < 2147483647
abbrev scr (ns : List Int) : D := .klst (ns.map .int)
theorem next_ok {t h : Hap} {ns : List Int} {many : Int} (hs : St t h) (hm : 0 < many) (hm2 : many < 1000000) (hn : ns.length ≤ 63) : Sat (Mi.m_law_next [.ref 0, scr ns, .int many] h) fun d h' => ∃ r, d = .int r ∧ 0 ≤ r ∧ r < many ∧ St t h' := by
  obtain ⟨a, b, c, rfl, ha, hc, hc2⟩ := hs
  have hd : CDivN b many := ⟨by omega, by omega⟩
  have fm : ∀ i : Int, 0 ≤ i.fmod many ∧ i.fmod many < many := fun i => ⟨Int.fmod_nonneg_of_pos i hm, Int.fmod_lt_of_pos i hm⟩
  unfold Mi.m_law_next Mi.b_law_next
  walk_at "x"
  refine s_seq ?_
  walk_at "x"
  refine ⟨fun _ => ?_, fun _ => ?_⟩
  · walk_at "x"
    refine v_div hd ?_
    walk_at "x"
    refine ⟨_, rfl, ?_⟩
    walk_at "x"
    exact ⟨_, rfl, (fm b).1, (fm b).2, a, _, c, rfl, ha, hc, hc2⟩
  walk_at "x"
  refine s_cut (fun e h => ∃ cell : Int, e = [some (.ref 0), some (scr ns), some (.int many), none, some (.int cell)] ∧ h = stc a b c :: t ∧ 0 ≤ cell) ?_ ?_
  · walk_at "x"
    refine ⟨fun e => ?_, fun _ => ?_⟩
    · walk_at "x"
      have hl : a < (ns.map D.int).length := by simpa using e
      obtain ⟨d, e1, e2, _⟩ := atI_ok (xs := ns.map D.int) ha hl
      obtain ⟨v, _, rfl⟩ := List.mem_map.mp e2
      refine x_some (d := .int v) (by show atI _ a = _; exact e1) ?_
      walk_at "x"
      exact ⟨_, rfl, rfl, by split <;> omega⟩
    · walk_at "x"
      exact ⟨0, rfl, rfl, Int.le_refl _⟩
  rintro _ _ ⟨cell, rfl, rfl, h0⟩
  walk_at "x"
  refine ⟨_, rfl, ?_⟩
  refine s_seq ?_
  walk_at "x"
  refine ⟨fun _ => ?_, fun _ => ?_⟩
  · walk_at "x"
    refine v_div ⟨by omega, by omega⟩ ?_
    walk_at "x"
    refine ⟨_, rfl, ?_⟩
    walk_at "x"
    exact ⟨_, rfl, (fm cell).1, (fm cell).2, a + 1, _, c, rfl, by omega, hc, hc2⟩
  walk_at "x"
  refine v_mul (.inr ⟨by decide, by decide⟩) ?_
  walk_at "x"
  refine v_mul (.inr ⟨by decide, by decide⟩) ?_
  walk_at "x"
  refine ⟨_, rfl, ?_⟩
  walk_at "x"
  have f0 : ∀ i : Int, 0 ≤ i.fmod 2147483647 ∧ i.fmod 2147483647 < 2147483647 := fun i => ⟨Int.fmod_nonneg_of_pos i (by decide), Int.fmod_lt_of_pos i (by decide)⟩
  generalize hz : (c * 48271 + cell * 69621 + 12345).fmod 2147483647 = z
  have hz0 := f0 (c * 48271 + cell * 69621 + 12345)
  rw [hz] at hz0
  refine v_div ⟨by decide, by decide⟩ ?_
  walk_at "x"
  refine v_mul (.inl ⟨by omega, by omega⟩) ?_
  walk_at "x"
  refine v_div ⟨by decide, by decide⟩ ?_
  walk_at "x"
  exact ⟨_, rfl, (fm _).1, (fm _).2, a + 1, b, z, rfl, by omega, hz0.1, hz0.2⟩
theorem next_k {t h : Hap} {ns : List Int} {many : Int} {P : D → Hap → Prop} (hs : St t h) (hn : ns.length ≤ 63) (hm : 0 < many) (hm2 : many < 1000000) (k : ∀ r h', 0 ≤ r → r < many → St t h' → P (.int r) h') : Sat (Mi.m_law_next [.ref 0, scr ns, .int many] h) P :=
  (next_ok hs hm hm2 hn).mono fun d h' ⟨r, e, a, b, c⟩ => by
    subst e
    exact k r h' a b c
local macro_rules | `(tactic| walk_at "nx") => `(tactic| (refine next_k (by assumption) (by assumption) (by first | decide | omega) (by first | decide | omega) ?_))
theorem len_app (x y : Str) : (x ++ y).length = x.length + y.length := by
  show (x.cps ++ y.cps).size = _
  rw [Array.size_append]
  rfl
theorem len_ch (c : Nat) : (ch c).length = 1 := rfl
theorem len_list (z : Str) : z.cps.toList.length = z.length := Array.length_toList
theorem len_cutS (z : Str) (l u : Option Int) : (cutS z l u).length ≤ z.length := by
  show (List.toArray _).size ≤ _
  rw [List.size_toArray, List.length_take, List.length_drop, len_list]
  omega
section
variable {t h : Hap} {ns : List Int}
end
end Vi

set_option Elab.async false
set_option linter.all false
set_option autoImplicit false
set_option maxRecDepth 100000
set_option maxHeartbeats 2000000
namespace Vi
open PySem PySem.Spec PyProof.Rows L2
open scoped Classical
local macro_rules | `(tactic| walk_at "x1") => `(tactic| with_reducible first
  | refine x_bin ?_ | refine x_tst ?_ | refine x_oB ?_ | refine x_c ?_ | refine s_seqA ?_ | refine s_seqU ?_ | refine s_seqE ?_ | refine s_seqN ?_ | refine s_seqD ?_ | refine s_seqF ?_ | refine s_seqL ?_ | refine s_asg' ?_ | refine s_if' ?_ | refine s_ret' ?_ | refine s_exp' ?_ | refine s_next ?_ | refine s_retN' ?_ | refine s_sub' ?_ | refine s_dsub' ?_ | refine s_setF' ?_ | refine s_ddel' ?_
  | refine x_cb ?_ | refine x_cons ?_ | refine x_nil ?_ | refine x_call ?_ | refine x_met ?_ | refine x_meth ?_ | refine x_make ?_ | refine x_fld ?_ | refine x_un ?_ | refine x_notT ?_ | refine x_andT ?_ | refine x_orT ?_ | refine x_and ?_ | refine x_or ?_ | refine x_not ?_ | refine x_if ?_
  | refine x_tup ?_ | refine x_lst ?_ | refine x_cel ?_ | refine x_dnew ?_ | refine x_sortIt ?_ | refine x_sl ?_ | refine x_noP ?_ | refine x_part ?_ | refine x_oI ?_ | refine x_mI ?_ | refine x_rng ?_ | refine x_yes ?_ | refine x_chn ?_ | refine x_fun ?_ | refine x_ok ?_)
local macro_rules | `(tactic| walk_at "x2") => `(tactic| first
  | ((with_reducible refine y_var ?_); refine ⟨_, rfl, ?_⟩)
  | ((with_reducible refine y_some ?_); refine ⟨_, rfl, ?_⟩)
  | ((with_reducible refine y_gP ?_); refine ⟨_, rfl, ?_⟩))
local macro_rules | `(tactic| walk_at "x") => `(tactic| repeat (first | walk_at "x1" | walk_at "x2" ))
local macro_rules | `(tactic| walk_at "nx") => `(tactic| (refine next_k (by assumption) (by assumption) (by first | decide | omega) (by first | decide | omega) ?_))
/-! ### heaps of texts -/
def leT (a b : Str) : Prop := a.cps.toList ≤ b.cps.toList
theorem leT_refl (a : Str) : leT a a := List.le_refl _
theorem leT_trans {a b c : Str} (h : leT a b) (h' : leT b c) : leT a c := List.le_trans h h'
theorem leT_total (a b : Str) : leT a b ∨ leT b a := List.le_total _ _
theorem leT_anti {a b : Str} (h : leT a b) (h' : leT b a) : a = b := TL.ext_tl (List.le_antisymm h h')
theorem ltS_le {a b : Str} (h : ltS a b = true) : leT a b := List.le_of_lt (of_decide_eq_true h)
theorem ltS_not {a b : Str} (h : ltS a b = false) : leT b a := List.not_lt.mp (of_decide_eq_false h)
/-- an edge of the heap -/
def Eg (xs : List Str) (i : Nat) : Prop := ∀ x y, xs[i]? = some x → xs[(i - 1) / 2]? = some y → leT y x
def IsH (xs : List Str) : Prop := ∀ i, 0 < i → Eg xs i
theorem swp_ok {xs : List Str} {i j : Nat} {x y : Str} (ei : xs[i]? = some x) (ej : xs[j]? = some y) : swp xs i j = (xs.set i y).set j x := by unfold swp; rw [ei, ej]
theorem swp_at {xs : List Str} {i j : Nat} {x y : Str} (ei : xs[i]? = some x) (ej : xs[j]? = some y) (n : Nat) : (swp xs i j)[n]? = if n = j then some x else if n = i then some y else xs[n]? := by
  have li := (List.getElem?_eq_some_iff.mp ei).1
  have lj := (List.getElem?_eq_some_iff.mp ej).1
  rw [swp_ok ei ej]
  by_cases a : n = j
  · rw [if_pos a, a, List.getElem?_set_self (by rw [List.length_set]; exact lj)]
  · rw [if_neg a, List.getElem?_set_ne (Ne.symm a)]
    by_cases b : n = i
    · rw [if_pos b, b, List.getElem?_set_self li]
    · rw [if_neg b, List.getElem?_set_ne (Ne.symm b)]
theorem swp_perm {xs : List Str} {i j : Nat} (hi : i < xs.length) (hj : j < xs.length) : (swp xs i j).Perm xs := by
  rw [swp_ok (List.getElem?_eq_getElem hi) (List.getElem?_eq_getElem hj)]
  exact List.set_set_perm hi hj
theorem lt_at {xs : List Str} {i j : Nat} {x y : Str} (ei : xs[i]? = some x) (ej : xs[j]? = some y) : ltAt xs i j = ltS x y := by unfold ltAt; rw [ei, ej]
/-- a heap but for what stands at p and above it -/
def Up (xs : List Str) (p : Nat) : Prop := (∀ i, 0 < i → i ≠ p → Eg xs i) ∧ ∀ c x y, 0 < p → 0 < c → (c - 1) / 2 = p → xs[c]? = some x → xs[(p - 1) / 2]? = some y → leT y x
theorem up_heap : ∀ (n : Nat) (xs : List Str) (p : Nat), p < n → p < xs.length → Up xs p → IsH (upS n xs p) ∧ (upS n xs p).Perm xs
  | 0, _, _, h, _, _ => absurd h (by omega)
  | n + 1, xs, p, h, hl, ⟨u1, u2⟩ => by
    rw [upS]
    by_cases p0 : p = 0
    · rw [if_pos p0]
      exact ⟨fun i i0 => u1 i i0 (by omega), .refl _⟩
    rw [if_neg p0]
    have hq : (p - 1) / 2 < xs.length := by omega
    have ex : xs[p]? = some xs[p] := List.getElem?_eq_getElem hl
    have ey : xs[(p - 1) / 2]? = some xs[(p - 1) / 2] := List.getElem?_eq_getElem hq
    generalize xs[p] = x at ex
    generalize xs[(p - 1) / 2] = y at ey
    rw [lt_at ex ey]
    cases hb : ltS x y with
    | false =>
      rw [if_neg Bool.false_ne_true]
      refine ⟨fun i i0 => ?_, .refl _⟩
      by_cases ip : i = p
      · subst ip
        intro a b ea eb
        rw [ex] at ea
        rw [ey] at eb
        cases ea
        cases eb
        exact ltS_not hb
      · exact u1 i i0 ip
    | true =>
      rw [if_pos rfl]
      have hle := ltS_le hb
      obtain ⟨q, eq⟩ : ∃ q, (p - 1) / 2 = q := ⟨_, rfl⟩
      rw [eq] at ey hq ⊢
      have at_ := swp_at ey ex
      have r := up_heap n (swp xs q p) q (by omega) (by rw [swp_len]; exact hq) ⟨fun i i0 iq a b ea eb => ?_, fun c a b q0 c0 cq ea eb => ?_⟩
      · exact ⟨r.1, r.2.trans (swp_perm hq hl)⟩
      · rw [at_] at ea eb
        by_cases ip : i = p
        · rw [if_pos ip] at ea
          rw [ip, eq, if_neg (by omega), if_pos rfl] at eb
          cases ea
          cases eb
          exact hle
        · rw [if_neg ip, if_neg iq] at ea
          by_cases ip2 : (i - 1) / 2 = p
          · rw [if_pos ip2] at eb
            cases eb
            exact u2 i a y (by omega) i0 ip2 ea (by rw [eq]; exact ey)
          · rw [if_neg ip2] at eb
            by_cases iq2 : (i - 1) / 2 = q
            · rw [if_pos iq2] at eb
              cases eb
              exact leT_trans hle (u1 i i0 ip a y ea (by rw [iq2]; exact ey))
            · rw [if_neg iq2] at eb
              exact u1 i i0 ip a b ea eb
      · rw [at_] at ea eb
        have g1 : (q - 1) / 2 ≠ p := by omega
        have g2 : (q - 1) / 2 ≠ q := by omega
        rw [if_neg g1, if_neg g2] at eb
        have e1 := u1 q q0 (by omega) y b ey eb
        by_cases cp : c = p
        · rw [if_pos cp] at ea
          cases ea
          exact e1
        · rw [if_neg cp, if_neg (by omega)] at ea
          exact leT_trans e1 (u1 c c0 cp a y ea (by rw [cq]; exact ey))
/-- a heap but for what stands at p, on its way down -/
def Dn (xs : List Str) (p : Nat) : Prop := (∀ i, 0 < i → i ≠ p → (i - 1) / 2 ≠ p → Eg xs i) ∧ ∀ c x y, 0 < p → 0 < c → (c - 1) / 2 = p → xs[c]? = some x → xs[(p - 1) / 2]? = some y → leT y x
theorem kid_ok (xs : List Str) (p : Nat) (h : p < xs.length / 2) : kid xs p < xs.length ∧ (kid xs p = 2 * p + 1 ∨ kid xs p = 2 * p + 2) ∧ ∀ c x y, 0 < c → (c - 1) / 2 = p → xs[c]? = some x → xs[kid xs p]? = some y → leT y x := by
  unfold kid
  by_cases z : 2 * p + 2 < xs.length ∧ ltAt xs (2 * p + 1) (2 * p + 2) = false
  · rw [if_pos z]
    refine ⟨z.1, .inr rfl, fun c x y c0 cp ex ey => ?_⟩
    have : c = 2 * p + 1 ∨ c = 2 * p + 2 := by omega
    rcases this with rfl | rfl
    · have := z.2
      rw [lt_at ex ey] at this
      exact ltS_not this
    · rw [ex] at ey; cases ey; exact leT_refl _
  · rw [if_neg z]
    refine ⟨by omega, .inl rfl, fun c x y c0 cp ex ey => ?_⟩
    have : c = 2 * p + 1 ∨ c = 2 * p + 2 := by omega
    rcases this with rfl | rfl
    · rw [ex] at ey; cases ey; exact leT_refl _
    · have hl := (List.getElem?_eq_some_iff.mp ex).1
      have : ltAt xs (2 * p + 1) (2 * p + 2) = true := by
        cases q : ltAt xs (2 * p + 1) (2 * p + 2) with
        | true => rfl
        | false => exact absurd ⟨hl, q⟩ z
      rw [lt_at ey ex] at this
      exact ltS_le this
theorem dn_heap : ∀ (n : Nat) (xs : List Str) (p : Nat), xs.length < n + p → p < xs.length → Dn xs p → IsH (dnS n xs p) ∧ (dnS n xs p).Perm xs
  | 0, _, _, h, h2, _ => absurd h (by omega)
  | n + 1, xs, p, h, hl, ⟨d1, d2⟩ => by
    rw [dnS]
    by_cases hp : p < xs.length / 2
    · rw [if_pos hp]
      obtain ⟨k1, k2, k3⟩ := kid_ok xs p hp
      generalize kid xs p = k at k1 k2 k3
      have ex : xs[k]? = some xs[k] := List.getElem?_eq_getElem k1
      have ey : xs[p]? = some xs[p] := List.getElem?_eq_getElem hl
      generalize xs[k] = x at ex
      generalize xs[p] = y at ey
      have at_ := swp_at ex ey
      have kp : (k - 1) / 2 = p := by omega
      have r := dn_heap n (swp xs k p) k (by rw [swp_len]; omega) (by rw [swp_len]; exact k1) ⟨fun i i0 ik ik2 a b ea eb => ?_, fun c a b _ c0 ck ea eb => ?_⟩
      · exact ⟨r.1, r.2.trans (swp_perm k1 hl)⟩
      · rw [at_] at ea eb
        by_cases ip : i = p
        · rw [if_pos ip] at ea
          cases ea
          rw [if_neg (by omega), if_neg (by omega)] at eb
          exact d2 k x b (by omega) (by omega) kp ex (by rw [← ip]; exact eb)
        · rw [if_neg ip, if_neg ik] at ea
          by_cases ip2 : (i - 1) / 2 = p
          · rw [if_pos ip2] at eb
            cases eb
            exact k3 i a x i0 ip2 ea ex
          · rw [if_neg ip2, if_neg ik2] at eb
            exact d1 i i0 ip ip2 a b ea eb
      · rw [at_] at ea eb
        rw [kp, if_pos rfl] at eb
        cases eb
        rw [if_neg (by omega), if_neg (by omega)] at ea
        exact d1 c c0 (by omega) (by omega) a x ea (by rw [ck]; exact ex)
    · rw [if_neg hp]
      refine up_heap (p + 1) xs p (Nat.lt_succ_self _) hl ⟨fun i i0 ip a b ea eb => ?_, fun c a b p0 c0 cp ea eb => ?_⟩
      · have il := (List.getElem?_eq_some_iff.mp ea).1
        exact d1 i i0 ip (by omega) a b ea eb
      · have il := (List.getElem?_eq_some_iff.mp ea).1
        omega
theorem push_heap {xs : List Str} {y : Str} (h : IsH xs) : IsH (pushS xs y) ∧ (pushS xs y).Perm (y :: xs) := by
  unfold pushS
  have hl : (xs ++ [y]).length = xs.length + 1 := by rw [List.length_append]; rfl
  have r := up_heap (xs.length + 1) (xs ++ [y]) xs.length (Nat.lt_succ_self _) (by omega) ⟨fun i i0 ip a b ea eb => ?_, fun c a b p0 c0 cp ea eb => ?_⟩
  · exact ⟨r.1, r.2.trans List.perm_append_comm⟩
  · have il := (List.getElem?_eq_some_iff.mp ea).1
    rw [hl] at il
    rw [List.getElem?_append_left (by omega)] at ea eb
    exact h i i0 a b ea eb
  · have il := (List.getElem?_eq_some_iff.mp ea).1
    rw [hl] at il
    omega
theorem heap_least {xs : List Str} (h : IsH xs) {m : Str} (e : xs[0]? = some m) : ∀ (i : Nat) x, xs[i]? = some x → leT m x := by
  intro i
  induction i using Nat.strongRecOn with
  | _ i ih =>
    intro x ex
    by_cases i0 : i = 0
    · subst i0
      rw [e] at ex
      cases ex
      exact leT_refl _
    · have il := (List.getElem?_eq_some_iff.mp ex).1
      have ey : xs[(i - 1) / 2]? = some xs[(i - 1) / 2] := List.getElem?_eq_getElem (by omega)
      exact leT_trans (ih ((i - 1) / 2) (by omega) _ ey) (h i (by omega) x _ ex ey)
theorem pop_heap {xs : List Str} (h : IsH xs) (ne : xs ≠ []) : IsH (popS xs).2 ∧ ((popS xs).1 :: (popS xs).2).Perm xs ∧ ∀ x ∈ xs, leT (popS xs).1 x := by
  obtain ⟨ys, y, rfl⟩ : ∃ ys y, xs = ys ++ [y] := ⟨_, _, (List.dropLast_concat_getLast ne).symm⟩
  cases ys with
  | nil =>
    rw [show popS ([] ++ [y]) = (y, []) from rfl]
    exact ⟨fun i _ a b ea => by simp at ea, .refl _, fun x m => by rw [List.mem_singleton.mp m]; exact leT_refl _⟩
  | cons x ys =>
    have ep : popS (x :: ys ++ [y]) = (x, dnS (ys.length + 2) ((x :: ys).set 0 y) 0) := by
      unfold popS
      rw [show (x :: ys ++ [y]).dropLast = x :: ys from List.dropLast_concat .., show (x :: ys ++ [y]).getLastD "" = y by rw [List.getLastD_concat], show (x :: ys ++ [y]).length = ys.length + 2 by simp]
    rw [ep]
    have r := dn_heap (ys.length + 2) (y :: ys) 0 (by show ys.length + 1 < _; omega) (Nat.succ_pos _) ⟨fun i i0 _ ip a b ea eb => ?_, fun c a b p0 => absurd p0 (by omega)⟩
    · refine ⟨r.1, ?_, fun z m => ?_⟩
      · exact (List.Perm.cons x r.2).trans (List.Perm.cons x (List.perm_append_comm (l₁ := [y]) (l₂ := ys)))
      · obtain ⟨i, ei⟩ := List.mem_iff_getElem?.mp m
        exact heap_least h rfl i z ei
    · have il := (List.getElem?_eq_some_iff.mp ea).1
      have il : i < ys.length + 1 := il
      obtain ⟨i', rfl⟩ : ∃ i', i = i' + 1 := ⟨i - 1, by omega⟩
      have ea : ys[i']? = some a := ea
      obtain ⟨j', ej⟩ : ∃ j', (i' + 1 - 1) / 2 = j' + 1 := ⟨(i' + 1 - 1) / 2 - 1, by omega⟩
      rw [ej] at eb
      have eb : ys[j']? = some b := eb
      refine h (i' + 1) (by omega) a b ?_ ?_
      · show (ys ++ [y])[i']? = some a
        rw [List.getElem?_append_left (by omega)]
        exact ea
      · rw [ej]
        show (ys ++ [y])[j']? = some b
        rw [List.getElem?_append_left (by omega)]
        exact eb
theorem sorted_heap {xs : List Str} (h : xs.Pairwise leT) : IsH xs := fun i i0 a b ea eb => by
  have ia := (List.getElem?_eq_some_iff.mp ea)
  have ib := (List.getElem?_eq_some_iff.mp eb)
  obtain ⟨la, ea⟩ := ia
  obtain ⟨lb, eb⟩ := ib
  have := List.pairwise_iff_getElem.mp h ((i - 1) / 2) i lb la (by omega)
  rw [ea, eb] at this
  exact this
theorem mn_least (x : Str) : ∀ xs : List Str, mnS x xs ∈ x :: xs ∧ ∀ y ∈ x :: xs, leT (mnS x xs) y := by
  intro xs
  unfold mnS
  induction xs generalizing x with
  | nil => exact ⟨List.mem_cons_self, fun y m => by rw [List.mem_singleton.mp m]; exact leT_refl _⟩
  | cons z xs ih =>
    rw [List.foldl_cons]
    cases hb : ltS z x with
    | true =>
      rw [if_pos rfl]
      obtain ⟨a, b⟩ := ih z
      refine ⟨List.mem_cons_of_mem _ a, fun y m => ?_⟩
      rcases List.mem_cons.mp m with rfl | m
      · exact leT_trans (b z List.mem_cons_self) (ltS_le hb)
      · exact b y m
    | false =>
      rw [if_neg Bool.false_ne_true]
      obtain ⟨a, b⟩ := ih x
      refine ⟨?_, fun y m => ?_⟩
      · rcases List.mem_cons.mp a with e | m
        · rw [e]; exact List.mem_cons_self
        · exact List.mem_cons_of_mem _ (List.mem_cons_of_mem _ m)
      · rcases List.mem_cons.mp m with rfl | m
        · exact b y List.mem_cons_self
        · rcases List.mem_cons.mp m with rfl | m
          · exact leT_trans (b x List.mem_cons_self) (ltS_not hb)
          · exact b y (List.mem_cons_of_mem _ m)
end Vi

set_option Elab.async false
set_option linter.all false
set_option autoImplicit false
set_option maxRecDepth 100000
set_option maxHeartbeats 2000000
namespace Vi
open PySem PySem.Spec PyProof.Rows L2
open scoped Classical
/-! ### steps: dicts, objects -/
section
variable {h : Hap} {env : Env} {Q : Ps}
theorem x_dnew {P : D → Hap → Prop} (p : P (.ref h.length) (h ++ [.dct []])) : Sat (mDNew env h) P := p
theorem s_dsub' {a o i : ME} (s : Sat (a env h) fun d h1 => Sat (o env h1) fun od h2 => Sat (i env h2) fun id h3 => ∃ h4, sDix od id d h3 = some h4 ∧ Q.n env h4) : SatS (mDSub a o i env h) Q := SatS.of (s.mono fun _ _ s => SatS.of (s.mono fun _ _ s => SatS.of (s.mono fun _ _ ⟨h4, q, p⟩ => by
  rw [q]
  exact p)))
theorem dct_at {i : Nat} {kvs : List (Key × D)} (e : h[i]? = some (.dct kvs)) : getD (.ref i) h = some kvs := by
  unfold getD
  simp only []
  rw [e]
theorem isd_at {i : Nat} {kvs : List (Key × D)} (e : h[i]? = some (.dct kvs)) : isT "dict" (.ref i) h = true := by
  unfold isT
  simp only []
  rw [e]
  rfl
end
end Vi

set_option Elab.async false
set_option linter.all false
set_option autoImplicit false
set_option maxRecDepth 100000
set_option maxHeartbeats 2000000
namespace Vi
open PySem PySem.Spec PyProof.Rows L2
open scoped Classical
/-! ### steps of walked dicts, of o.f += n -/
section
variable {env : Env} {h : Hap} {Q : Ps}
theorem x_lokG {g : Env → Hap → Option Nat} {j : Nat} {m : ME} {kds : List (Key × D)} {P : D → Hap → Prop} (eg : g env h = some j) (hj : h[j]? = some (.dct kds)) (s : Sat (m env (h.set j (.lok kds))) fun d h2 => h2[j]? = some (.lok kds) ∧ P d (h2.set j (.dct kds))) : Sat (mLokG g m env h) P := by
  unfold mLokG
  rw [eg]
  simp only []
  rw [hj]
  simp only []
  revert s
  cases m env (h.set j (.lok kds)) with
  | ok d h2 =>
    intro s
    have s : h2[j]? = some (.lok kds) ∧ P d (h2.set j (.dct kds)) := s
    simp only []
    rw [if_pos s.1]
    exact s.2
  | err => exact fun s => s.elim
  | stuck => exact fun s => s.elim
theorem putD_ln (acc : List (Key × D)) (k : Key) (v : D) : (putD acc k v).length ≤ acc.length + 1 := by
  unfold putD
  split
  · rw [List.length_map]; omega
  · rw [List.length_append, List.length_singleton]; omega
/-- a comprehension of a dict that leaves items out -/
theorem x_dcompFM {s : MI} {vs : List Nat} {g : MG} {c : MT} {k e : ME} {P : D → Hap → Prop} (xs : List D) (pf : D → Bool) (kf : D → Key) (f : D → D) (hsz : xs.length ≤ sizeLine) (hs : Sat (s env h) fun s h1 => h1 = h ∧ s.1 = xs ∧ s.2 h)
    (he : ∀ x ∈ xs, ∃ e1, g x (wipeE env vs) h = some e1 ∧ Sat (c e1 h) fun t h1 => h1 = h ∧ t = pf x ∧ (t = true → Sat (k e1 h) fun kd h2 => h2 = h ∧ keyD kd = some (kf x) ∧ Sat (e e1 h) fun d h3 => h3 = h ∧ d = f x))
    (p : P (.ref h.length) (h ++ [.dct ((xs.filter pf).foldl (fun acc x => putD acc (kf x) (f x)) [])])) : Sat (mDComp s vs g c k e env h) P := Sat.bind (hs.mono fun s h1 z => by
  obtain ⟨xs', gd⟩ := s
  obtain ⟨rfl, rfl, hg⟩ := z
  refine Sat.bindN ?_
  have go : ∀ (post : List D) (acc : List (Key × D)), (∀ x ∈ post, x ∈ xs') → acc.length + post.length ≤ sizeLine → Sat (dcL gd vs g c k e env post h1 acc) fun ys h2 => ys = (post.filter pf).foldl (fun acc x => putD acc (kf x) (f x)) acc ∧ h2 = h1 := by
    intro post
    induction post with
    | nil =>
      intro acc _ _
      unfold dcL
      rw [if_pos hg]
      exact ⟨rfl, rfl⟩
    | cons x post ih =>
      intro acc hm hl
      unfold dcL
      rw [if_pos hg]
      rw [List.length_cons] at hl
      obtain ⟨e1, q1, q2⟩ := he x (hm x List.mem_cons_self)
      rw [q1]
      refine Sat.bindN (q2.mono fun t h2 z => ?_)
      obtain ⟨rfl, rfl, z⟩ := z
      cases hp : pf x with
      | false =>
        rw [if_neg (by decide), List.filter_cons, hp, if_neg (by decide)]
        exact ih acc (fun y m => hm y (List.mem_cons_of_mem _ m)) (by omega)
      | true =>
        rw [if_pos rfl, List.filter_cons, hp, if_pos rfl]
        refine Sat.bindN ((z hp).mono fun kd h2 z => ?_)
        obtain ⟨rfl, ek, z⟩ := z
        refine Sat.bindN (z.mono fun d h3 z => ?_)
        obtain ⟨rfl, rfl⟩ := z
        rw [ek]
        simp only []
        rw [if_pos (by omega)]
        exact ih _ (fun y m => hm y (List.mem_cons_of_mem _ m)) (by have := putD_ln acc (kf x) (f x); omega)
  refine (go xs' [] (fun _ m => m) (by simpa using hsz)).mono fun ys h2 z => ?_
  obtain ⟨rfl, rfl⟩ := z
  exact p)
end
end Vi

set_option Elab.async false
set_option linter.all false
set_option autoImplicit false
set_option maxRecDepth 100000
set_option maxHeartbeats 2000000
namespace Vi
open PySem PySem.Spec PyProof.Rows L2
open scoped Classical
local macro_rules | `(tactic| walk_at "x1") => `(tactic| with_reducible first
  | refine x_bin ?_ | refine x_tst ?_ | refine x_oB ?_ | refine x_c ?_ | refine s_seqA ?_ | refine s_seqU ?_ | refine s_seqE ?_ | refine s_seqN ?_ | refine s_seqD ?_ | refine s_seqF ?_ | refine s_seqL ?_ | refine s_asg' ?_ | refine s_if' ?_ | refine s_ret' ?_ | refine s_exp' ?_ | refine s_next ?_ | refine s_retN' ?_ | refine s_sub' ?_ | refine s_dsub' ?_ | refine s_setF' ?_ | refine s_ddel' ?_
  | refine x_cb ?_ | refine x_cons ?_ | refine x_nil ?_ | refine x_call ?_ | refine x_met ?_ | refine x_meth ?_ | refine x_make ?_ | refine x_fld ?_ | refine x_un ?_ | refine x_notT ?_ | refine x_andT ?_ | refine x_orT ?_ | refine x_and ?_ | refine x_or ?_ | refine x_not ?_ | refine x_if ?_
  | refine x_tup ?_ | refine x_lst ?_ | refine x_cel ?_ | refine x_dnew ?_ | refine x_sortIt ?_ | refine x_sl ?_ | refine x_noP ?_ | refine x_part ?_ | refine x_oI ?_ | refine x_mI ?_ | refine x_rng ?_ | refine x_yes ?_ | refine x_chn ?_ | refine x_fun ?_ | refine x_ok ?_)
local macro_rules | `(tactic| walk_at "x2") => `(tactic| first
  | ((with_reducible refine y_var ?_); refine ⟨_, rfl, ?_⟩)
  | ((with_reducible refine y_some ?_); refine ⟨_, rfl, ?_⟩)
  | ((with_reducible refine y_gP ?_); refine ⟨_, rfl, ?_⟩))
local macro_rules | `(tactic| walk_at "x") => `(tactic| repeat (first | walk_at "x1" | walk_at "x2" ))
local macro_rules | `(tactic| walk_at "nx") => `(tactic| (refine next_k (by assumption) (by assumption) (by first | decide | omega) (by first | decide | omega) ?_))
section
variable {env : Env} {h : Hap} {Q : Ps} {P : D → Hap → Prop}
/-- a while, by a measure and an invariant -/
theorem s_wh28 {c : MT} {b : MS} (I : Nat → Env → Hap → Prop) (step : ∀ m e h, I m e h → Sat (c e h) fun t h1 => (t = true → SatS (b e h1) ⟨fun e2 h2 => ∃ m', m' < m ∧ I m' e2 h2, Q.r, Q.n, fun e2 h2 => ∃ m', m' < m ∧ I m' e2 h2⟩) ∧ (t = false → Q.n e h1)) :
    ∀ (n m : Nat) (env : Env) (h : Hap), m < n → I m env h → SatS (mWh n c b env h) Q := by
  intro n
  induction n with
  | zero => intro m _ _ hm _; exact absurd hm (by omega)
  | succ n ih =>
    intro m env h hm i
    unfold mWh whL
    refine SatS.of ((step m env h i).mono fun t h1 z => ?_)
    cases t with
    | false => exact z.2 rfl
    | true =>
      have z := z.1 rfl
      rw [if_pos rfl]
      revert z
      cases b env h1 with
      | nx e2 h2 => exact fun z => let ⟨m', a, b⟩ := z; ih m' e2 h2 (by omega) b
      | ct e2 h2 => exact fun z => let ⟨m', a, b⟩ := z; ih m' e2 h2 (by omega) b
      | bk e2 h2 => exact fun z => z
      | rt d h2 => exact fun z => z
      | er => exact fun z => z.elim
      | stuck => exact fun z => z.elim
theorem s_lok28 {g : Env → Hap → Option Nat} {j : Nat} {m : MS} {kds : List (Key × D)} (eg : g env h = some j) (hj : h[j]? = some (.dct kds))
    (s : SatS (m env (h.set j (.lok kds))) ⟨fun e h2 => h2[j]? = some (.lok kds) ∧ Q.n e (h2.set j (.dct kds)), fun d h2 => h2[j]? = some (.lok kds) ∧ Q.r d (h2.set j (.dct kds)), fun e h2 => h2[j]? = some (.lok kds) ∧ Q.b e (h2.set j (.dct kds)), fun e h2 => h2[j]? = some (.lok kds) ∧ Q.c e (h2.set j (.dct kds))⟩) : SatS (mLokS g m env h) Q := by
  unfold mLokS
  rw [eg]
  simp only []
  rw [hj]
  simp only []
  revert s
  cases m env (h.set j (.lok kds)) with
  | nx e h2 => exact fun s => by simp only []; rw [if_pos (show h2[j]? = some (.lok kds) ∧ _ from s).1]; exact (show h2[j]? = some (.lok kds) ∧ Q.n e (h2.set j (.dct kds)) from s).2
  | bk e h2 => exact fun s => by simp only []; rw [if_pos (show h2[j]? = some (.lok kds) ∧ _ from s).1]; exact (show h2[j]? = some (.lok kds) ∧ Q.b e (h2.set j (.dct kds)) from s).2
  | ct e h2 => exact fun s => by simp only []; rw [if_pos (show h2[j]? = some (.lok kds) ∧ _ from s).1]; exact (show h2[j]? = some (.lok kds) ∧ Q.c e (h2.set j (.dct kds)) from s).2
  | rt d h2 => exact fun s => by simp only []; rw [if_pos (show h2[j]? = some (.lok kds) ∧ _ from s).1]; exact (show h2[j]? = some (.lok kds) ∧ Q.r d (h2.set j (.dct kds)) from s).2
  | er => exact fun s => s.elim
  | stuck => exact fun s => s.elim
theorem x_lokE28 {i j : Nat} {m : ME} {kds : List (Key × D)} (ei : env[i]? = some (some (.ref j))) (hj : h[j]? = some (.dct kds)) (s : Sat (m env (h.set j (.lok kds))) fun d h2 => h2[j]? = some (.lok kds) ∧ P d (h2.set j (.dct kds))) : Sat (mLokE i m env h) P := by
  unfold mLokE
  rw [ei]
  simp only []
  rw [hj]
  simp only []
  revert s
  cases m env (h.set j (.lok kds)) with
  | ok d h2 => exact fun s => by simp only []; rw [if_pos (show h2[j]? = some (.lok kds) ∧ _ from s).1]; exact (show h2[j]? = some (.lok kds) ∧ P d (h2.set j (.dct kds)) from s).2
  | err => exact fun s => s.elim
  | stuck => exact fun s => s.elim
theorem x_IK28 {i j : Nat} {kds : List (Key × D)} (ei : env[i]? = some (some (.ref j))) (hj : h[j]? = some (.lok kds)) : Sat (mIK i env h) fun s h1 => h1 = h ∧ s.1 = kds.map (fun kv => keyV kv.1) ∧ s.2 = fun h => h[j]? = some (.lok kds) := by
  unfold mIK
  rw [ei]
  simp only []
  rw [hj]
  exact ⟨rfl, rfl, rfl⟩
/-- a dict comprehension whose values lay new cells -/
theorem x_dcomp28 {s : MI} {vs : List Nat} {g : MG} {c : MT} {k e : ME} (I : List D → List D → Hap → List (Key × D) → Prop) (hs : Sat (s env h) fun s h1 => I [] s.1 h1 [] ∧ (∀ pre post h acc, s.1 = pre ++ post → I pre post h acc → s.2 h) ∧
      (∀ pre x post h acc, s.1 = pre ++ x :: post → I pre (x :: post) h acc → ∃ e1, g x (wipeE env vs) h = some e1 ∧ Sat (c e1 h) fun t h1 => t = true ∧ Sat (k e1 h1) fun kd h2 => Sat (e e1 h2) fun y h3 => ∃ kk, keyD kd = some kk ∧ acc.length < sizeLine ∧ I (pre ++ [x]) post h3 (putD acc kk y)) ∧
      (∀ h acc, I s.1 [] h acc → P (.ref h.length) (h ++ [.dct acc]))) : Sat (mDComp s vs g c k e env h) P := by
  unfold mDComp
  refine Sat.bind (hs.mono fun s h1 z => ?_)
  obtain ⟨xs, gd⟩ := s
  obtain ⟨h0, hg, ht, he⟩ := z
  refine Sat.bindN ?_
  have go : ∀ (post pre : List D) (h : Hap) (acc : List (Key × D)), xs = pre ++ post → I pre post h acc → Sat (dcL gd vs g c k e env post h acc) fun ys h2 => Sat (.ok (.ref h2.length) (h2 ++ [.dct ys])) P := by
    intro post
    induction post with
    | nil =>
      intro pre h acc q i
      unfold dcL
      rw [if_pos (hg pre [] h acc q i)]
      rw [List.append_nil] at q
      subst q
      exact he h acc i
    | cons x post ih =>
      intro pre h acc q i
      unfold dcL
      rw [if_pos (hg pre _ h acc q i)]
      obtain ⟨e1, q1, t⟩ := ht pre x post h acc q i
      rw [q1]
      refine Sat.bindN (t.mono fun t h1 z => ?_)
      obtain ⟨rfl, z⟩ := z
      rw [if_pos rfl]
      refine Sat.bindN (z.mono fun kd h2 z => ?_)
      refine Sat.bindN (z.mono fun y h3 z => ?_)
      obtain ⟨kk, e2, e3, z⟩ := z
      rw [e2]
      simp only []
      rw [if_pos e3]
      exact ih (pre ++ [x]) h3 _ (by simpa using q) z
  exact go xs [] h1 [] rfl h0
theorem v28_get2 {i : Nat} {kvs : List (Key × D)} {z : Str} {d : D} (e : h[i]? = some (.dct kvs)) (p : P ((valD kvs (.inr z)).getD d) h) : Sat (gP dGet2 (.ref i) [.str z, d] h) P := x_gP (by
  unfold dGet2
  simp only [keyD]
  rw [dct_at e]) p
theorem v28_sub {i : Nat} {kvs : List (Key × D)} {z : Str} {d : D} (e : h[i]? = some (.dct kvs)) (hv : valD kvs (.inr z) = some d) (p : P d h) : Sat (ofO (dDGet (.ref i) (.str z) h) h) P := x_some (by
  unfold dDGet
  simp only [keyD]
  rw [dct_at e]
  exact hv) p
theorem v28_subL {i : Nat} {kvs : List (Key × D)} {z : Str} {d : D} (e : h[i]? = some (.lok kvs)) (hv : valD kvs (.inr z) = some d) (p : P d h) : Sat (ofO (dDGetL (.ref i) (.str z) h) h) P := x_some (by
  unfold dDGetL getDL
  simp only [e]
  exact hv) p
theorem v28_in {i : Nat} {kvs : List (Key × D)} {z : Str} {b : Bool} (e : h[i]? = some (.dct kvs)) (hv : (valD kvs (.inr z)).isSome = b) (p : P (.bl b) h) : Sat (ofO (dDIn (.str z) (.ref i) h) h) P := x_some (by
  unfold dDIn
  simp only [keyD]
  rw [dct_at e]
  simp only []
  rw [hv]) p
theorem v28_nin {i : Nat} {kvs : List (Key × D)} {z : Str} {b : Bool} (e : h[i]? = some (.dct kvs)) (hv : (valD kvs (.inr z)).isSome = b) (p : P (.bl (!b)) h) : Sat (ofO (dDNotIn (.str z) (.ref i) h) h) P := x_some (by
  unfold dDNotIn
  simp only [keyD]
  rw [dct_at e]
  simp only []
  rw [hv]) p
end
end Vi

set_option Elab.async false
set_option linter.all false
set_option autoImplicit false
set_option maxRecDepth 100000
set_option maxHeartbeats 2000000
namespace Vi
open PySem PySem.Spec PyProof.Rows L2
open scoped Classical
local macro_rules | `(tactic| walk_at "x1") => `(tactic| with_reducible first
  | refine x_bin ?_ | refine x_tst ?_ | refine x_oB ?_ | refine x_c ?_ | refine s_seqA ?_ | refine s_seqU ?_ | refine s_seqE ?_ | refine s_seqN ?_ | refine s_seqD ?_ | refine s_seqF ?_ | refine s_seqL ?_ | refine s_asg' ?_ | refine s_if' ?_ | refine s_ret' ?_ | refine s_exp' ?_ | refine s_next ?_ | refine s_retN' ?_ | refine s_sub' ?_ | refine s_dsub' ?_ | refine s_setF' ?_ | refine s_ddel' ?_
  | refine x_cb ?_ | refine x_cons ?_ | refine x_nil ?_ | refine x_call ?_ | refine x_met ?_ | refine x_meth ?_ | refine x_make ?_ | refine x_fld ?_ | refine x_un ?_ | refine x_notT ?_ | refine x_andT ?_ | refine x_orT ?_ | refine x_and ?_ | refine x_or ?_ | refine x_not ?_ | refine x_if ?_
  | refine x_tup ?_ | refine x_lst ?_ | refine x_cel ?_ | refine x_dnew ?_ | refine x_sortIt ?_ | refine x_sl ?_ | refine x_noP ?_ | refine x_part ?_ | refine x_oI ?_ | refine x_mI ?_ | refine x_rng ?_ | refine x_yes ?_ | refine x_chn ?_ | refine x_fun ?_ | refine x_ok ?_)
local macro_rules | `(tactic| walk_at "x2") => `(tactic| first
  | ((with_reducible refine y_var ?_); refine ⟨_, rfl, ?_⟩)
  | ((with_reducible refine y_some ?_); refine ⟨_, rfl, ?_⟩)
  | ((with_reducible refine y_gP ?_); refine ⟨_, rfl, ?_⟩))
local macro_rules | `(tactic| walk_at "x") => `(tactic| repeat (first | walk_at "x1" | walk_at "x2" ))
local macro_rules | `(tactic| walk_at "nx") => `(tactic| (refine next_k (by assumption) (by assumption) (by first | decide | omega) (by first | decide | omega) ?_))
/-! ### graphs: labels with their needs -/
abbrev Nl := List (Str × List Str)
def nbs (N : Nl) (x : Str) : List Str := ((N.find? fun r => decide (r.1 = x)).map (·.2)).getD []
abbrev ks28 (N : Nl) : List Str := N.map Prod.fst
inductive Rc (nb : Str → List Str) (S : List Str) : Str → Prop
  | base {x} : x ∈ S → Rc nb S x
  | step {x y} : Rc nb S x → y ∈ nb x → Rc nb S y
theorem rc_closed {nb : Str → List Str} {S F : List Str} (h1 : ∀ s ∈ S, s ∈ F) (h2 : ∀ x ∈ F, ∀ y ∈ nb x, y ∈ F) {x : Str} (r : Rc nb S x) : x ∈ F := by
  induction r with
  | base m => exact h1 _ m
  | step _ m ih => exact h2 _ ih _ m
theorem rc_mono {nb : Str → List Str} {S S' : List Str} (h : ∀ s ∈ S, s ∈ S') {x : Str} (r : Rc nb S x) : Rc nb S' x := by
  induction r with
  | base m => exact .base (h _ m)
  | step _ m ih => exact .step ih m
theorem nbs_row {N : Nl} (n : (ks28 N).Nodup) {r : Str × List Str} (m : r ∈ N) : nbs N r.1 = r.2 := by
  unfold nbs
  have : N.find? (fun q => decide (q.1 = r.1)) = some r := by
    induction N with
    | nil => simp at m
    | cons q N ih =>
      rw [List.find?_cons]
      rw [ks28, List.map_cons, List.nodup_cons] at n
      rcases List.mem_cons.mp m with e | m
      · rw [decide_eq_true (show q.1 = r.1 by rw [e]), ← e]
      · rw [decide_eq_false (fun z => n.1 (by rw [z]; exact List.mem_map.mpr ⟨r, m, rfl⟩))]
        exact ih n.2 m
  rw [this]
  rfl
theorem nbs_key {N : Nl} {x y : Str} (m : y ∈ nbs N x) : x ∈ ks28 N := by
  unfold nbs at m
  cases q : N.find? (fun r => decide (r.1 = x)) with
  | none => rw [q] at m; simp at m
  | some r => exact List.mem_map.mpr ⟨r, List.mem_of_find?_eq_some q, of_decide_eq_true (List.find?_some (p := fun r : Str × List Str => decide (r.1 = x)) q)⟩
theorem nbs_none {N : Nl} {x : Str} (m : x ∉ ks28 N) : nbs N x = [] := by
  cases q : nbs N x with
  | nil => rfl
  | cons y ys => exact absurd (nbs_key (by rw [q]; exact List.mem_cons_self)) m
/-- who needs it, as often as it does -/
def tws (N : Nl) (x : Str) : List Str := (N.map fun r => List.replicate (r.2.count x) r.1).flatten
theorem tws_mem {N : Nl} (n : (ks28 N).Nodup) {x y : Str} : y ∈ tws N x ↔ x ∈ nbs N y := by
  unfold tws
  rw [List.mem_flatten]
  constructor
  · rintro ⟨l, ml, my⟩
    obtain ⟨r, mr, rfl⟩ := List.mem_map.mp ml
    obtain ⟨c, rfl⟩ := List.mem_replicate.mp my
    rw [nbs_row n mr]
    exact List.count_pos_iff.mp (by omega)
  · intro m
    obtain ⟨r, mr, rfl⟩ := List.mem_map.mp (nbs_key m)
    rw [nbs_row n mr] at m
    exact ⟨_, List.mem_map.mpr ⟨r, mr, rfl⟩, List.mem_replicate.mpr ⟨by have := List.count_pos_iff.mpr m; omega, rfl⟩⟩
theorem tws_count {N : Nl} (n : (ks28 N).Nodup) (x y : Str) : (tws N x).count y = (nbs N y).count x := by
  induction N with
  | nil => rfl
  | cons r N ih =>
    have n' := n
    rw [ks28, List.map_cons, List.nodup_cons] at n'
    have e : tws (r :: N) x = List.replicate (r.2.count x) r.1 ++ tws N x := by unfold tws; rw [List.map_cons, List.flatten_cons]
    rw [e, List.count_append, ih n'.2, List.count_replicate]
    by_cases c : r.1 = y
    · subst c
      have z : nbs N r.1 = [] := nbs_none n'.1
      rw [z, nbs_row n List.mem_cons_self]
      simp
    · have z : nbs (r :: N) y = nbs N y := by
        unfold nbs
        rw [List.find?_cons, decide_eq_false c]
      rw [z]
      simp [c]
/-! ### orders -/
def mis (N : Nl) (O : List Str) (x : Str) : Nat := ((nbs N x).filter fun y => decide (y ∉ O)).length
def rdy (N : Nl) (O : List Str) : List Str := (N.filter fun r => decide (r.1 ∉ O) && decide ((r.2.filter fun y => decide (y ∉ O)).length = 0)).map Prod.fst
theorem rdy_mem {N : Nl} (n : (ks28 N).Nodup) {O : List Str} {x : Str} : x ∈ rdy N O ↔ x ∈ ks28 N ∧ x ∉ O ∧ mis N O x = 0 := by
  unfold rdy
  rw [List.mem_map]
  constructor
  · rintro ⟨r, mr, rfl⟩
    obtain ⟨m, c⟩ := List.mem_filter.mp mr
    rw [Bool.and_eq_true, decide_eq_true_iff, decide_eq_true_iff] at c
    refine ⟨List.mem_map.mpr ⟨r, m, rfl⟩, c.1, ?_⟩
    unfold mis
    rw [nbs_row n m]
    exact c.2
  · rintro ⟨m, c1, c2⟩
    obtain ⟨r, mr, rfl⟩ := List.mem_map.mp m
    refine ⟨r, List.mem_filter.mpr ⟨mr, ?_⟩, rfl⟩
    rw [Bool.and_eq_true, decide_eq_true_iff, decide_eq_true_iff]
    unfold mis at c2
    rw [nbs_row n mr] at c2
    exact ⟨c1, c2⟩
def nxt (N : Nl) (O : List Str) : List Str := match rdy N O with
  | [] => O
  | x :: xs => O ++ [mnS x xs]
def ordG (N : Nl) : Nat → List Str
  | 0 => []
  | n + 1 => nxt N (ordG N n)
theorem min_one {L L' : List Str} {m m' : Str} (h : ∀ x, x ∈ L ↔ x ∈ L') (a : m ∈ L) (b : ∀ y ∈ L, leT m y) (a' : m' ∈ L') (b' : ∀ y ∈ L', leT m' y) : m = m' := leT_anti (b _ ((h _).mpr a')) (b' _ ((h _).mp a))
theorem nxt_min {N : Nl} {O : List Str} {m : Str} (a : m ∈ rdy N O) (b : ∀ y ∈ rdy N O, leT m y) : nxt N O = O ++ [m] := by
  unfold nxt
  cases q : rdy N O with
  | nil => rw [q] at a; simp at a
  | cons x xs =>
    simp only []
    obtain ⟨c, d⟩ := mn_least x xs
    rw [q] at a b
    rw [min_one (fun _ => .rfl) c d a b]
theorem ord_facts {N : Nl} (n : (ks28 N).Nodup) : ∀ k, (ordG N k).Nodup ∧ (∀ x ∈ ordG N k, x ∈ ks28 N) ∧ (ordG N k).length ≤ k
  | 0 => ⟨List.nodup_nil, fun x m => (nomatch m), Nat.le_refl _⟩
  | k + 1 => by
    obtain ⟨a, b, c⟩ := ord_facts n k
    rw [ordG]
    unfold nxt
    cases q : rdy N (ordG N k) with
    | nil => exact ⟨a, b, Nat.le_succ_of_le c⟩
    | cons x xs =>
      simp only []
      obtain ⟨d, _⟩ := mn_least x xs
      rw [← q] at d
      obtain ⟨d1, d2, _⟩ := (rdy_mem n).mp d
      refine ⟨?_, fun y m => ?_, by rw [List.length_append]; exact Nat.succ_le_succ c⟩
      · rw [List.nodup_append]
        exact ⟨a, by simp, fun y my z mz e => d2 (by rw [← List.mem_singleton.mp mz, ← e]; exact my)⟩
      · rcases List.mem_append.mp m with m | m
        · exact b y m
        · rw [List.mem_singleton.mp m]; exact d1
theorem ord_stop {N : Nl} {k : Nat} (h : rdy N (ordG N k) = []) : ∀ d, ordG N (k + d) = ordG N k
  | 0 => rfl
  | d + 1 => by
    rw [← Nat.add_assoc, ordG, ord_stop h d]
    unfold nxt
    rw [h]
theorem nodup_sub_len : ∀ {a b : List Str}, a.Nodup → (∀ x ∈ a, x ∈ b) → a.length ≤ b.length
  | [], _, _, _ => Nat.zero_le _
  | x :: a, b, n, h => by
    rw [List.nodup_cons] at n
    have := nodup_sub_len (b := b.erase x) n.2 fun y m => (List.mem_erase_of_ne (fun z => n.1 (by rw [← z]; exact m))).mpr (h y (List.mem_cons_of_mem _ m))
    have l := List.length_erase_of_mem (h x List.mem_cons_self)
    have p : 0 < b.length := List.length_pos_of_mem (h x List.mem_cons_self)
    rw [List.length_cons]
    omega
/-- the program's order: when nothing is possible any more -/
theorem ord_end {N : Nl} (n : (ks28 N).Nodup) {k : Nat} (hk : (ordG N k).length = k) (h : rdy N (ordG N k) = []) : ordG N k = ordG N N.length := by
  obtain ⟨a, b, _⟩ := ord_facts n k
  have := nodup_sub_len a b
  rw [hk, ks28, List.length_map] at this
  obtain ⟨d, e⟩ := Nat.le.dest this
  rw [← e, ord_stop h d]
theorem mis_count {N : Nl} {O : List Str} {x : Str} (hx : x ∉ O) (u : Str) : (nbs N u).count x ≤ mis N O u ∧ mis N (O ++ [x]) u + (nbs N u).count x = mis N O u := by
  have e : mis N (O ++ [x]) u + (nbs N u).count x = mis N O u := by
    unfold mis
    generalize nbs N u = l
    induction l with
    | nil => rfl
    | cons y l ih =>
      rw [List.filter_cons, List.filter_cons, List.count_cons]
      by_cases c : y = x
      · subst c
        rw [if_pos (decide_eq_true hx), if_neg (by simp), List.length_cons, beq_self_eq_true, if_pos rfl]
        omega
      · have cb : (y == x) = false := by simpa using c
        rw [cb, if_neg Bool.false_ne_true]
        by_cases d : y ∈ O
        · rw [if_neg (by simp [d]), if_neg (by simp [d])]
          omega
        · rw [if_pos (by simp [d, c]), if_pos (by simp [d]), List.length_cons, List.length_cons]
          omega
  exact ⟨by omega, e⟩
/-- the labels stand in an order in which needs come before -/
structure Acy (N : Nl) (Ls : List Str) : Prop where
  all : ∀ x ∈ ks28 N, x ∈ Ls
  key : ∀ x ∈ Ls, x ∈ ks28 N
  pre : ∀ r ∈ N, ∀ k, Ls[k]? = some r.1 → ∀ y ∈ r.2, y ∈ Ls.take k
end Vi

set_option Elab.async false
set_option linter.all false
set_option autoImplicit false
set_option maxRecDepth 100000
set_option maxHeartbeats 2000000
namespace Vi
open PySem PySem.Spec PyProof.Rows L2
open scoped Classical
local macro_rules | `(tactic| walk_at "x1") => `(tactic| with_reducible first
  | refine x_bin ?_ | refine x_tst ?_ | refine x_oB ?_ | refine x_c ?_ | refine s_seqA ?_ | refine s_seqU ?_ | refine s_seqE ?_ | refine s_seqN ?_ | refine s_seqD ?_ | refine s_seqF ?_ | refine s_seqL ?_ | refine s_asg' ?_ | refine s_if' ?_ | refine s_ret' ?_ | refine s_exp' ?_ | refine s_next ?_ | refine s_retN' ?_ | refine s_sub' ?_ | refine s_dsub' ?_ | refine s_setF' ?_ | refine s_ddel' ?_
  | refine x_cb ?_ | refine x_cons ?_ | refine x_nil ?_ | refine x_call ?_ | refine x_met ?_ | refine x_meth ?_ | refine x_make ?_ | refine x_fld ?_ | refine x_un ?_ | refine x_notT ?_ | refine x_andT ?_ | refine x_orT ?_ | refine x_and ?_ | refine x_or ?_ | refine x_not ?_ | refine x_if ?_
  | refine x_tup ?_ | refine x_lst ?_ | refine x_cel ?_ | refine x_dnew ?_ | refine x_sortIt ?_ | refine x_sl ?_ | refine x_noP ?_ | refine x_part ?_ | refine x_oI ?_ | refine x_mI ?_ | refine x_rng ?_ | refine x_yes ?_ | refine x_chn ?_ | refine x_fun ?_ | refine x_ok ?_)
local macro_rules | `(tactic| walk_at "x2") => `(tactic| first
  | ((with_reducible refine y_var ?_); refine ⟨_, rfl, ?_⟩)
  | ((with_reducible refine y_some ?_); refine ⟨_, rfl, ?_⟩)
  | ((with_reducible refine y_gP ?_); refine ⟨_, rfl, ?_⟩))
local macro_rules | `(tactic| walk_at "x") => `(tactic| repeat (first | walk_at "x1" | walk_at "x2" ))
local macro_rules | `(tactic| walk_at "nx") => `(tactic| (refine next_k (by assumption) (by assumption) (by first | decide | omega) (by first | decide | omega) ?_))
/-! ### actions: label, tool, args, sources, needs -/
abbrev R5 := Str × Str × List Str × List Str × List Str
def inD (r : R5) : List D := (r.2.2.2.1.map fun p => D.tup [.str "source", .str p]) ++ r.2.2.2.2.map fun p => D.tup [.str "target", .str p]
def rwG (r : R5) : D := .tup [.str r.1, .str r.2.1, .tup (r.2.2.1.map .str), .tup (inD r)]
abbrev NG (G : List R5) : Nl := G.map fun r => (r.1, r.2.2.2.2)
def wD : Bool → List D → D
  | true, xs => .tup xs
  | false, xs => .lst xs
theorem sq_wD (wb : Bool) (xs : List D) (h : Hap) : seqOf (wD wb xs) h = some xs := by cases wb <;> rfl
theorem gq_wD (wb : Bool) (xs : List D) (h : Hap) : getQ (wD wb xs) h = some xs := by cases wb <;> rfl
def nD (wb : Bool) (N : Nl) : List (Key × D) := N.map fun r => (.inr r.1, wD wb (r.2.map .str))
def pKd (k : Str) : D → Bool
  | .tup [.str a, _] => decide (a = k)
  | _ => false
def pNm : D → D
  | .tup [_, b] => b
  | d => d
theorem ne_kd : ("source" : Str) ≠ "target" := by decide +kernel
theorem in_t (r : R5) : ((inD r).filter (pKd "target")).map pNm = r.2.2.2.2.map D.str := by
  unfold inD
  rw [List.filter_append, List.filter_eq_nil_iff.mpr, List.nil_append, List.filter_eq_self.mpr, List.map_map]
  · rfl
  · intro d m
    obtain ⟨p, _, rfl⟩ := List.mem_map.mp m
    exact decide_eq_true (rfl : ("target" : Str) = "target")
  · intro d m
    obtain ⟨p, _, rfl⟩ := List.mem_map.mp m
    show ¬ decide (("source" : Str) = "target") = true
    rw [decide_eq_false ne_kd]
    exact Bool.false_ne_true
theorem in_len (r : R5) : (inD r).length = r.2.2.2.1.length + r.2.2.2.2.length := by unfold inD; rw [List.length_append, List.length_map, List.length_map]
section
variable {r : R5} {h : Hap} {P : D → Hap → Prop} {G : List R5}
theorem put_fold {α : Type} {kf : α → Key} {f : α → D} : ∀ (l : List α) (acc : List (Key × D)), (acc.map Prod.fst ++ l.map kf).Nodup → l.foldl (fun acc x => putD acc (kf x) (f x)) acc = acc ++ l.map fun x => (kf x, f x)
  | [], acc, _ => by simp
  | x :: l, acc, n => by
    have e : putD acc (kf x) (f x) = acc ++ [(kf x, f x)] := by
      unfold putD
      rw [if_neg]
      intro z
      obtain ⟨kv, m, e⟩ := List.any_eq_true.mp z
      exact (List.nodup_append.mp n).2.2 _ (List.mem_map.mpr ⟨kv, m, rfl⟩) _ List.mem_cons_self (of_decide_eq_true e)
    rw [List.foldl_cons, e, put_fold l _ (by rw [List.map_append, List.append_assoc]; exact n), List.append_assoc]
    rfl
theorem inr_nodup {l : List Str} (n : l.Nodup) : (l.map (Sum.inr : Str → Key)).Nodup := List.Pairwise.map _ (fun _ _ h e => h (Sum.inr.inj e)) n
end
end Vi

set_option Elab.async false
set_option linter.all false
set_option autoImplicit false
set_option maxRecDepth 100000
set_option maxHeartbeats 2000000
namespace Vi
open PySem PySem.Spec PyProof.Rows L2
open scoped Classical
local macro_rules | `(tactic| walk_at "x1") => `(tactic| with_reducible first
  | refine x_bin ?_ | refine x_tst ?_ | refine x_oB ?_ | refine x_c ?_ | refine s_seqA ?_ | refine s_seqU ?_ | refine s_seqE ?_ | refine s_seqN ?_ | refine s_seqD ?_ | refine s_seqF ?_ | refine s_seqL ?_ | refine s_asg' ?_ | refine s_if' ?_ | refine s_ret' ?_ | refine s_exp' ?_ | refine s_next ?_ | refine s_retN' ?_ | refine s_sub' ?_ | refine s_dsub' ?_ | refine s_setF' ?_ | refine s_ddel' ?_
  | refine x_cb ?_ | refine x_cons ?_ | refine x_nil ?_ | refine x_call ?_ | refine x_met ?_ | refine x_meth ?_ | refine x_make ?_ | refine x_fld ?_ | refine x_un ?_ | refine x_notT ?_ | refine x_andT ?_ | refine x_orT ?_ | refine x_and ?_ | refine x_or ?_ | refine x_not ?_ | refine x_if ?_
  | refine x_tup ?_ | refine x_lst ?_ | refine x_cel ?_ | refine x_dnew ?_ | refine x_sortIt ?_ | refine x_sl ?_ | refine x_noP ?_ | refine x_part ?_ | refine x_oI ?_ | refine x_mI ?_ | refine x_rng ?_ | refine x_yes ?_ | refine x_chn ?_ | refine x_fun ?_ | refine x_ok ?_)
local macro_rules | `(tactic| walk_at "x2") => `(tactic| first
  | ((with_reducible refine y_var ?_); refine ⟨_, rfl, ?_⟩)
  | ((with_reducible refine y_some ?_); refine ⟨_, rfl, ?_⟩)
  | ((with_reducible refine y_gP ?_); refine ⟨_, rfl, ?_⟩))
local macro_rules | `(tactic| walk_at "x") => `(tactic| repeat (first | walk_at "x1" | walk_at "x2" ))
local macro_rules | `(tactic| walk_at "nx") => `(tactic| (refine next_k (by assumption) (by assumption) (by first | decide | omega) (by first | decide | omega) ?_))
section
variable {h : Hap} {P : D → Hap → Prop}
theorem isl28 {i : Nat} {xs : List D} {h : Hap} (e : h[i]? = some (.lst xs)) : isT "list" (.ref i) h = true := by simp [isT, e]
theorem gq28 {i : Nat} {xs : List D} {h : Hap} (e : h[i]? = some (.lst xs)) : getQ (.ref i) h = some xs := by simp [getQ, getL, e]
theorem gl28 {i : Nat} {xs : List D} {h : Hap} (e : h[i]? = some (.lst xs)) : getL (.ref i) h = some xs := by simp [getL, e]
theorem gm28 {i : Nat} {xs : List D} {h : Hap} (e : h[i]? = some (.lst xs)) : getM (.ref i) h = some xs := by simp [getM, e]
theorem sq28 {i : Nat} {xs : List D} {h : Hap} (e : h[i]? = some (.lst xs)) : seqOf (.ref i) h = some xs := by simp [seqOf, getQ, getL, e]
theorem v28_app {i : Nat} {xs : List D} {y : D} (e : h[i]? = some (.lst xs)) (hl : xs.length < 1000000) (p : P .non (h.set i (.lst (xs ++ [y])))) : Sat (gAppend (.ref i) [y] h) P := by
  unfold gAppend
  simp only []
  rw [e]
  simp only []
  rw [if_pos (by rw [sizeLine_eq]; omega)]
  exact p
theorem v28_setd {i : Nat} {kvs : List (Key × D)} {z : Str} {d v : D} (e : h[i]? = some (.dct kvs)) (hv : valD kvs (.inr z) = some v) (hl : kvs.length ≤ 1000000) (p : P v h) : Sat (gSetd (.ref i) [.str z, d] h) P := by
  unfold gSetd
  simp only [keyD]
  rw [e]
  simp only []
  rw [if_pos (by rw [sizeLine_eq]; omega), hv]
  exact p
theorem x_IW28 {env : Env} {f : Key × D → D} {o : ME} {j : Nat} {kds : List (Key × D)} (so : Sat (o env h) fun d h1 => d = .ref j ∧ h1 = h) (hj : h[j]? = some (.lok kds)) : Sat (mIW f o env h) fun s h1 => h1 = h ∧ s.1 = kds.map f ∧ s.2 = fun h => h[j]? = some (.lok kds) := by
  unfold mIW
  refine Sat.bind (so.mono fun d h1 z => ?_)
  obtain ⟨rfl, rfl⟩ := z
  simp only []
  rw [hj]
  exact ⟨rfl, rfl, rfl⟩
theorem val28_map (hs : List Str) (f : Str → D) (x : Str) : valD (hs.map fun x => ((.inr x : Key), f x)) (.inr x) = if x ∈ hs then some (f x) else none := by
  unfold valD
  induction hs with
  | nil => simp
  | cons y hs ih =>
    rw [List.map_cons, List.find?_cons]
    by_cases e : y = x
    · subst e
      rw [decide_eq_true (rfl : ((.inr y : Key), f y).1 = .inr y), if_pos List.mem_cons_self]
      rfl
    · rw [decide_eq_false (show ¬ ((.inr y : Key), f y).1 = .inr x from fun z => e (Sum.inr.inj z))]
      simp only []
      rw [ih]
      by_cases m : x ∈ hs
      · rw [if_pos m, if_pos (List.mem_cons_of_mem _ m)]
      · rw [if_neg m, if_neg (fun z => (List.mem_cons.mp z).elim (fun w => e w.symm) m)]
theorem val_nD {wb : Bool} {N : Nl} (n : (ks28 N).Nodup) {r : Str × List Str} (m : r ∈ N) : valD (nD wb N) (.inr r.1) = some (wD wb (r.2.map .str)) := by
  have e : nD wb N = (ks28 N).map fun x => ((.inr x : Key), wD wb ((nbs N x).map .str)) := by
    unfold nD ks28
    rw [List.map_map]
    refine List.map_congr_left fun q mq => ?_
    show _ = ((.inr q.1 : Key), wD wb ((nbs N q.1).map .str))
    rw [nbs_row n mq]
  rw [e, val28_map, if_pos (List.mem_map.mpr ⟨r, m, rfl⟩), nbs_row n m]
end
/-! ### turned_round -/
def tD (b : Nat) (N : Nl) : List (Key × D) := (ks28 N).map fun x => (.inr x, .ref (b + (ks28 N).idxOf x))
structure TW (h : Hap) (b : Nat) (N : Nl) (cur : Str → List Str) (h' : Hap) : Prop where
  lo : ∀ n, n < b → h'[n]? = h[n]?
  ce : ∀ x ∈ ks28 N, h'[b + (ks28 N).idxOf x]? = some (.lst ((cur x).map .str))
  di : h'[b + N.length]? = some (.dct (tD b N))
  ln : b + N.length < h'.length
theorem ix_lt {N : Nl} {x : Str} (m : x ∈ ks28 N) : (ks28 N).idxOf x < N.length := by
  have := List.idxOf_lt_length_of_mem m
  rwa [ks28, List.length_map] at this
theorem ix_inj {l : List Str} {x y : Str} (mx : x ∈ l) (e : l.idxOf x = l.idxOf y) : x = y := by
  have hx := List.idxOf_lt_length_of_mem mx
  have a : l[l.idxOf x]? = some x := by rw [List.getElem?_eq_getElem hx, List.getElem_idxOf]
  have my : l.idxOf y < l.length := by omega
  have b : l[l.idxOf y]? = some y := by rw [List.getElem?_eq_getElem my, List.getElem_idxOf]
  rw [e, b] at a
  exact (Option.some.inj a).symm
theorem TW.step {h h' : Hap} {b : Nat} {N : Nl} {cur : Str → List Str} {y u : Str} (T : TW h b N cur h') (my : y ∈ ks28 N) : TW h b N (fun x => if x = y then cur x ++ [u] else cur x) ((h' ++ [Cel.lst []]).set (b + (ks28 N).idxOf y) (.lst ((cur y ++ [u]).map .str))) := by
  have ly := ix_lt my
  have ln := T.ln
  refine ⟨fun n hn => ?_, fun x mx => ?_, ?_, ?_⟩
  · rw [List.getElem?_set_ne (by omega), List.getElem?_append_left (by omega)]
    exact T.lo n hn
  · have lx := ix_lt mx
    by_cases e : x = y
    · subst e
      rw [List.getElem?_set_self (by rw [List.length_append]; omega), if_pos rfl]
    · rw [if_neg e, List.getElem?_set_ne (fun z => e (ix_inj mx (by omega))), List.getElem?_append_left (by omega)]
      exact T.ce x mx
  · rw [List.getElem?_set_ne (by omega), List.getElem?_append_left ln]
    exact T.di
  · rw [List.length_set, List.length_append]
    omega
theorem TW.congr {h h' : Hap} {b : Nat} {N : Nl} {cur cur' : Str → List Str} (T : TW h b N cur h') (e : ∀ x, cur x = cur' x) : TW h b N cur' h' := by
  rw [← show cur = cur' from funext e]
  exact T
theorem tws_len {z : Str} : ∀ {as : Nl}, (∀ q ∈ as, q.2.length ≤ 100) → (tws as z).length ≤ as.length * 100
  | [], _ => Nat.le_refl _
  | q :: as, sub => by
    have a := tws_len (z := z) (as := as) fun y m => sub y (List.mem_cons_of_mem _ m)
    have e : tws (q :: as) z = List.replicate (q.2.count z) q.1 ++ tws as z := by unfold tws; rw [List.map_cons, List.flatten_cons]
    have c := List.count_le_length (a := z) (l := q.2)
    have d := sub q List.mem_cons_self
    rw [e, List.length_append, List.length_replicate, List.length_cons]
    omega
theorem tws_snoc (as : Nl) (r : Str × List Str) (x : Str) : tws (as ++ [r]) x = tws as x ++ List.replicate (r.2.count x) r.1 := by
  unfold tws
  rw [List.map_append, List.flatten_append]
  simp
section
variable {h : Hap} {P : D → Hap → Prop} {N : Nl} {j : Nat}
theorem turned_k {wb : Bool} (n : (ks28 N).Nodup) (cl : ∀ r ∈ N, ∀ y ∈ r.2, y ∈ ks28 N) (hl : N.length ≤ 1000) (hr : ∀ r ∈ N, r.2.length ≤ 100) (hj : h[j]? = some (.dct (nD wb N)))
    (k : ∀ h', TW h h.length N (tws N) h' → P (.ref (h.length + N.length)) h') : Sat (Mi.m_turned_round [.ref j] h) P := by
  unfold Mi.m_turned_round Mi.b_turned_round
  have jl := (List.getElem?_eq_some_iff.mp hj).1
  have kl : (ks28 N).length = N.length := by rw [ks28, List.length_map]
  have keys : (nD wb N).map (fun kv => keyV kv.1) = (ks28 N).map D.str := by unfold nD ks28; rw [List.map_map, List.map_map]; rfl
  have lk : (h.set j (.lok (nD wb N)))[j]? = some (.lok (nD wb N)) := List.getElem?_set_self jl
  refine x_fun (s_seq (s_lok28 (g := gVr 0) (j := j) (kds := nD wb N) rfl hj (s_asg' (x_dcomp28 (fun pre post h' acc => ∃ as bs, ks28 N = as ++ bs ∧ pre = as.map D.str ∧ h' = h.set j (.lok (nD wb N)) ++ List.replicate as.length (Cel.lst []) ∧ acc = as.map fun x => ((.inr x : Key), D.ref (h.length + (ks28 N).idxOf x))) ?_))))
  refine (x_IK28 (j := j) (kds := nD wb N) rfl lk).mono fun s h1 z => ?_
  obtain ⟨rfl, es, eg⟩ := z
  rw [es, eg, keys]
  refine ⟨⟨[], ks28 N, rfl, rfl, by simp, rfl⟩, fun pre post h' acc _ i => ?_, ?_, ?_⟩
  · obtain ⟨as, bs, _, _, rfl, _⟩ := i
    show (h.set j (.lok (nD wb N)) ++ _)[j]? = _
    rw [List.getElem?_append_left (by rw [List.length_set]; exact jl)]
    exact lk
  · rintro pre x post h' acc hx ⟨as, bs, e1, rfl, rfl, rfl⟩
    rw [e1, List.map_append] at hx
    have hx := List.append_cancel_left hx
    obtain ⟨y, bs', rfl, rfl⟩ : ∃ y bs', bs = y :: bs' ∧ x = .str y := by
      cases bs with
      | nil => simp at hx
      | cons y bs' => exact ⟨y, bs', rfl, (List.cons.inj hx).1.symm⟩
    have ny : y ∉ as := fun m => by
      rw [e1] at n
      exact (List.nodup_append.mp n).2.2 _ m _ List.mem_cons_self rfl
    have iy : (ks28 N).idxOf y = as.length := by rw [e1, List.idxOf_append, if_neg ny, List.idxOf_cons_self, Nat.zero_add]
    have la : as.length ≤ N.length := by rw [← kl, e1, List.length_append]; omega
    refine ⟨_, rfl, rfl, x_var rfl (x_cel (x_nil ⟨sl_le (show 0 ≤ 16777216 by decide), .inr y, rfl, ?_, as ++ [y], bs', by rw [e1]; simp, by rw [List.map_append]; rfl, ?_, ?_⟩))⟩
    · rw [List.length_map]
      exact Nat.lt_of_le_of_lt (show as.length ≤ 1000 by omega) (Nat.lt_of_lt_of_le (show 1000 < 16777216 by decide) (sl_le (Nat.le_refl _)))
    · rw [List.length_append, List.length_singleton, List.replicate_succ', List.append_assoc]
    · have ef : (h.set j (.lok (nD wb N)) ++ List.replicate as.length (Cel.lst [])).length = h.length + (ks28 N).idxOf y := by rw [iy, List.length_append, List.length_set, List.length_replicate]
      rw [ef, List.map_append]
      unfold putD
      rw [if_neg]
      · rfl
      · intro z
        obtain ⟨kv, m, e⟩ := List.any_eq_true.mp z
        obtain ⟨q, mq, rfl⟩ := List.mem_map.mp m
        exact ny (by rw [← Sum.inr.inj (of_decide_eq_true e)]; exact mq)
  rintro h' acc ⟨as, bs, e1, e2, rfl, rfl⟩
  have e2 : (ks28 N).map D.str = as.map D.str := e2
  have ea : as = ks28 N := ((List.map_inj_right fun p q w => D.str.inj w).mp e2).symm
  subst ea
  rw [kl]
  have l1 : (h.set j (.lok (nD wb N)) ++ List.replicate N.length (Cel.lst [])).length = h.length + N.length := by rw [List.length_append, List.length_set, List.length_replicate]
  rw [l1]
  dsimp only
  refine ⟨?_, ?_⟩
  · rw [List.append_assoc, List.getElem?_append_left (by rw [List.length_set]; exact jl)]
    exact lk
  have T0 : TW h h.length N (fun _ => []) ((h.set j (.lok (nD wb N)) ++ List.replicate N.length (Cel.lst []) ++ [Cel.dct ((ks28 N).map fun x => ((.inr x : Key), D.ref (h.length + (ks28 N).idxOf x)))]).set j (.dct (nD wb N))) := by
    refine ⟨fun m hm => ?_, fun x mx => ?_, ?_, ?_⟩
    · by_cases e : m = j
      · subst e
        rw [List.getElem?_set_self (by simp; omega), hj]
      · rw [List.getElem?_set_ne (Ne.symm e), List.append_assoc, List.getElem?_append_left (by rw [List.length_set]; exact hm), List.getElem?_set_ne (Ne.symm e)]
    · have lx := ix_lt mx
      rw [List.getElem?_set_ne (by omega), List.getElem?_append_left (by rw [l1]; omega), List.getElem?_append_right (by rw [List.length_set]; omega), List.length_set, Nat.add_sub_cancel_left, List.getElem?_replicate, if_pos lx]
      rfl
    · rw [List.getElem?_set_ne (by omega), List.getElem?_append_right (by rw [l1]; exact Nat.le_refl _), l1, Nat.sub_self]
      rfl
    · rw [List.length_set, List.length_append, l1]
      exact Nat.lt_succ_self _
  generalize (h.set j (.lok (nD wb N)) ++ List.replicate N.length (Cel.lst []) ++ [Cel.dct ((ks28 N).map fun x => ((.inr x : Key), D.ref (h.length + (ks28 N).idxOf x)))]).set j (.dct (nD wb N)) = h1 at T0 ⊢
  have hj1 : h1[j]? = some (.dct (nD wb N)) := (T0.lo j jl).trans hj
  have jl1 := (List.getElem?_eq_some_iff.mp hj1).1
  have T1 : TW (h.set j (.lok (nD wb N))) h.length N (tws []) (h1.set j (.lok (nD wb N))) := by
    have ln := T0.ln
    refine ⟨fun m hm => ?_, fun x mx => ?_, ?_, by rw [List.length_set]; exact ln⟩
    · by_cases e : m = j
      · subst e
        rw [List.getElem?_set_self jl1, List.getElem?_set_self jl]
      · rw [List.getElem?_set_ne (Ne.symm e), List.getElem?_set_ne (Ne.symm e)]
        exact T0.lo m hm
    · rw [List.getElem?_set_ne (by omega)]
      exact T0.ce x mx
    · rw [List.getElem?_set_ne (by omega)]
      exact T0.di
  refine s_seq (s_lok28 (g := gVr 0) (j := j) (kds := nD wb N) rfl hj1 (s_forI (fun pre post e h' => ∃ as bs x2 x3, N = as ++ bs ∧ pre = as.map (fun r => D.str r.1) ∧ e = [some (.ref j), some (.ref (h.length + N.length)), x2, x3] ∧ TW (h.set j (.lok (nD wb N))) h.length N (tws as) h') ?_))
  have keys2 : (nD wb N).map (fun kv => keyV kv.1) = N.map fun r => D.str r.1 := by unfold nD; rw [List.map_map]; rfl
  refine (x_IW28 (o := mVar 0) (j := j) (x_var rfl ⟨rfl, rfl⟩) (List.getElem?_set_self jl1)).mono fun s h2 z => ?_
  obtain ⟨rfl, es, eg⟩ := z
  rw [es, keys2]
  have gd : ∀ {h'' : Hap} {cur : Str → List Str}, TW (h.set j (.lok (nD wb N))) h.length N cur h'' → h''[j]? = some (.lok (nD wb N)) := fun T => (T.lo j jl).trans lk
  refine ⟨⟨[], N, _, _, rfl, rfl, rfl, T1⟩, fun pre post e h' _ i => ?_, ?_, ?_⟩
  · obtain ⟨as, bs, x2, x3, _, _, _, T⟩ := i
    rw [eg]
    exact gd T
  · rintro pre y post e h' hx ⟨as, bs, x2, x3, eN, rfl, rfl, T⟩
    rw [eN, List.map_append] at hx
    have hx := List.append_cancel_left hx
    obtain ⟨r, bs', rfl, rfl⟩ : ∃ r bs', bs = r :: bs' ∧ y = .str r.1 := by
      cases bs with
      | nil => simp at hx
      | cons r bs' => exact ⟨r, bs', rfl, (List.cons.inj hx).1.symm⟩
    have mr : r ∈ N := by rw [eN]; simp
    have lr := hr r mr
    refine ⟨_, rfl, ?_⟩
    refine s_forI (fun pre post e h' => ∃ cs ds x3, r.2 = cs ++ ds ∧ pre = cs.map D.str ∧ e = [some (.ref j), some (.ref (h.length + N.length)), some (.str r.1), x3] ∧ TW (h.set j (.lok (nD wb N))) h.length N (fun x => tws as x ++ List.replicate (cs.count x) r.1) h') ?_
    refine x_mI (x_bin (x_var rfl (x_var rfl (v28_subL (d := wD wb (r.2.map .str)) (gd T) (val_nD n mr) ⟨r.2.map .str, sq_wD _ _ _, ⟨[], r.2, _, rfl, rfl, rfl, T.congr fun x => by simp⟩, fun _ _ _ _ _ _ => sq_wD _ _ _, ?_, ?_⟩))))
    · rintro pre y post e h2 hx ⟨cs, ds, x3, er, rfl, rfl, T2⟩
      have hx : r.2.map D.str = _ := hx
      rw [er, List.map_append] at hx
      have hx := List.append_cancel_left hx
      obtain ⟨z, ds', rfl, rfl⟩ : ∃ z ds', ds = z :: ds' ∧ y = .str z := by
        cases ds with
        | nil => simp at hx
        | cons z ds' => exact ⟨z, ds', rfl, (List.cons.inj hx).1.symm⟩
      have mz : z ∈ ks28 N := cl r mr z (by rw [er]; simp)
      have lz := ix_lt mz
      have ln := T2.ln
      have lsum : (tws as z ++ List.replicate (cs.count z) r.1).length < 1000000 := by
        have e1 : (tws as z).length ≤ as.length * 100 := by
          have sub : ∀ q ∈ as, q.2.length ≤ 100 := fun q mq => hr q (by rw [eN]; exact List.mem_append_left _ mq)
          exact tws_len sub
        have la : as.length ≤ 1000 := by rw [eN, List.length_append] at hl; omega
        have lc : cs.count z ≤ 100 := by
          have := List.count_le_length (a := z) (l := cs)
          rw [er, List.length_append] at lr
          omega
        rw [List.length_append, List.length_replicate]
        omega
      refine ⟨_, rfl, ?_⟩
      refine s_exp' (x_met (x_met (x_var rfl ⟨isd_at T2.di, x_cons (x_var rfl (x_cons (x_cel (x_nil ⟨sl_le (show 0 ≤ 16777216 by decide), x_nil ?_⟩))))⟩)))
      have di : (h2 ++ [Cel.lst []])[h.length + N.length]? = some (.dct (tD h.length N)) := by rw [List.getElem?_append_left ln]; exact T2.di
      have ce : (h2 ++ [Cel.lst []])[h.length + (ks28 N).idxOf z]? = some (.lst ((tws as z ++ List.replicate (cs.count z) r.1).map .str)) := by rw [List.getElem?_append_left (by omega)]; exact T2.ce z mz
      refine v28_setd di (v := .ref (h.length + (ks28 N).idxOf z)) (by unfold tD; rw [val28_map, if_pos mz]) (by unfold tD; rw [List.length_map, kl]; omega) ?_
      refine ⟨isl28 ce, x_cons (x_var rfl (x_nil (v28_app ce (by rw [List.length_map]; exact lsum) ?_)))⟩
      refine ⟨cs ++ [z], ds', _, by rw [er]; simp, by rw [List.map_append]; rfl, rfl, ?_⟩
      have T3 := T2.step (u := r.1) mz
      rw [List.map_append] at T3
      refine T3.congr fun x => ?_
      by_cases e : x = z
      · subst e
        rw [if_pos rfl, List.count_append, List.count_singleton_self, List.replicate_succ', List.append_assoc]
      · rw [if_neg e, List.count_append, List.count_eq_zero.mpr (show x ∉ [z] from fun m => e (List.mem_singleton.mp m)), Nat.add_zero]
    · rintro e h2 ⟨cs, ds, x3, er, e2, rfl, T2⟩
      have e2 : r.2.map D.str = cs.map D.str := e2
      have ec := (List.map_inj_right fun p q w => D.str.inj w).mp e2
      refine ⟨as ++ [r], bs', _, _, by rw [eN]; simp, by rw [List.map_append]; rfl, rfl, T2.congr fun x => ?_⟩
      rw [tws_snoc, ec]
  · rintro e h' ⟨as, bs, x2, x3, eN, e2, rfl, T⟩
    have e2 : N.map (fun r => D.str r.1) = as.map fun r => D.str r.1 := e2
    have la := congrArg List.length e2
    have lN := congrArg List.length eN
    rw [List.length_map, List.length_map] at la
    rw [List.length_append] at lN
    have : bs = [] := List.eq_nil_of_length_eq_zero (by omega)
    subst this
    rw [List.append_nil] at eN
    subst eN
    refine ⟨gd T, ?_⟩
    dsimp only
    refine s_ret' (x_var rfl (k _ ?_))
    have jl2 := (List.getElem?_eq_some_iff.mp (gd T)).1
    have ln := T.ln
    refine ⟨fun m hm => ?_, fun x mx => ?_, ?_, by rw [List.length_set]; exact ln⟩
    · by_cases e : m = j
      · subst e
        rw [List.getElem?_set_self jl2, hj]
      · rw [List.getElem?_set_ne (Ne.symm e), T.lo m hm, List.getElem?_set_ne (Ne.symm e)]
    · rw [List.getElem?_set_ne (by omega)]
      exact T.ce x mx
    · rw [List.getElem?_set_ne (by omega)]
      exact T.di
end
end Vi

set_option Elab.async false
set_option linter.all false
set_option autoImplicit false
set_option maxRecDepth 100000
set_option maxHeartbeats 2000000
namespace Vi
open PySem PySem.Spec PyProof.Rows L2
open scoped Classical
local macro_rules | `(tactic| walk_at "x1") => `(tactic| with_reducible first
  | refine x_bin ?_ | refine x_tst ?_ | refine x_oB ?_ | refine x_c ?_ | refine s_seqA ?_ | refine s_seqU ?_ | refine s_seqE ?_ | refine s_seqN ?_ | refine s_seqD ?_ | refine s_seqF ?_ | refine s_seqL ?_ | refine s_asg' ?_ | refine s_if' ?_ | refine s_ret' ?_ | refine s_exp' ?_ | refine s_next ?_ | refine s_retN' ?_ | refine s_sub' ?_ | refine s_dsub' ?_ | refine s_setF' ?_ | refine s_ddel' ?_
  | refine x_cb ?_ | refine x_cons ?_ | refine x_nil ?_ | refine x_call ?_ | refine x_met ?_ | refine x_meth ?_ | refine x_make ?_ | refine x_fld ?_ | refine x_un ?_ | refine x_notT ?_ | refine x_andT ?_ | refine x_orT ?_ | refine x_and ?_ | refine x_or ?_ | refine x_not ?_ | refine x_if ?_
  | refine x_tup ?_ | refine x_lst ?_ | refine x_cel ?_ | refine x_dnew ?_ | refine x_sortIt ?_ | refine x_sl ?_ | refine x_noP ?_ | refine x_part ?_ | refine x_oI ?_ | refine x_mI ?_ | refine x_rng ?_ | refine x_yes ?_ | refine x_chn ?_ | refine x_fun ?_ | refine x_ok ?_)
local macro_rules | `(tactic| walk_at "x2") => `(tactic| first
  | ((with_reducible refine y_var ?_); refine ⟨_, rfl, ?_⟩)
  | ((with_reducible refine y_some ?_); refine ⟨_, rfl, ?_⟩)
  | ((with_reducible refine y_gP ?_); refine ⟨_, rfl, ?_⟩))
local macro_rules | `(tactic| walk_at "x") => `(tactic| repeat (first | walk_at "x1" | walk_at "x2" ))
local macro_rules | `(tactic| walk_at "nx") => `(tactic| (refine next_k (by assumption) (by assumption) (by first | decide | omega) (by first | decide | omega) ?_))
/-! ### reached -/
def fD (F : List Str) : List (Key × D) := F.map fun x => (.inr x, .bl true)
theorem val_fD (F : List Str) (x : Str) : (valD (fD F) (.inr x)).isSome = decide (x ∈ F) := by
  unfold fD
  rw [val28_map]
  by_cases m : x ∈ F
  · rw [if_pos m, decide_eq_true m]; rfl
  · rw [if_neg m, decide_eq_false m]; rfl
/-- a dict of links, read as nb -/
def Lk (h : Hap) (j : Nat) (nb : Str → List Str) : Prop := ∃ kvs, h[j]? = some (.dct kvs) ∧ ∀ x, (valD kvs (.inr x) = none ∧ nb x = []) ∨ ∃ v, valD kvs (.inr x) = some v ∧ ((∃ wb, v = wD wb ((nb x).map .str)) ∨ ∃ i, v = .ref i ∧ h[i]? = some (.lst ((nb x).map .str)))
theorem Lk.app {h : Hap} {j : Nat} {nb : Str → List Str} (L : Lk h j nb) (g : Hap) : ∃ kvs, (h ++ g)[j]? = some (.dct kvs) ∧ ∀ x, (valD kvs (.inr x)).getD (.tup []) = .tup ((nb x).map .str) ∨ ∃ d, (valD kvs (.inr x)).getD (.tup []) = d ∧ (∀ ys, d ≠ .tup ys) ∧ getM d (h ++ g) = some ((nb x).map D.str) := by
  obtain ⟨kvs, e, a⟩ := L
  refine ⟨kvs, by rw [List.getElem?_append_left (List.getElem?_eq_some_iff.mp e).1]; exact e, fun x => ?_⟩
  rcases a x with ⟨e1, e2⟩ | ⟨v, e1, e2⟩
  · exact .inl (by rw [e1, e2]; rfl)
  · rcases e2 with ⟨wb, rfl⟩ | ⟨i, rfl, e3⟩
    · cases wb with
      | true => exact .inl (by rw [e1]; rfl)
      | false => exact .inr ⟨wD false ((nb x).map .str), by rw [e1]; rfl, fun ys => D.noConfusion, rfl⟩
    · exact .inr ⟨.ref i, by rw [e1]; rfl, fun ys => D.noConfusion, gm28 (by rw [List.getElem?_append_left (List.getElem?_eq_some_iff.mp e3).1]; exact e3)⟩
theorem v28_ext {h : Hap} {P : D → Hap → Prop} {i : Nat} {xs : List D} {d : D} {ys : List D} (e : h[i]? = some (.lst xs)) (hd : d = .tup ys ∨ ((∀ zs, d ≠ .tup zs) ∧ getM d h = some ys)) (hl : xs.length + ys.length ≤ 1000000) (p : P .non (h.set i (.lst (xs ++ ys)))) : Sat (gExtA (.ref i) [d] h) P := by
  have sz := sizeLine_eq
  rcases hd with rfl | ⟨nt, hm⟩
  · unfold gExtA
    simp only []
    rw [e]
    simp only []
    rw [if_pos (by omega)]
    exact p
  · have e1 : gExtA (.ref i) [d] h = gExtend (.ref i) [d] h := by
      unfold gExtA
      split
      · next ys q => exact absurd (List.cons.inj q).1 (nt _)
      · rfl
    rw [e1]
    unfold gExtend
    simp only []
    rw [e, hm]
    simp only []
    rw [if_pos (by omega)]
    exact p
def wgt (ks : List Str) (nb : Str → List Str) (F : List Str) : Nat := ((ks.filter fun x => decide (x ∉ F)).map fun x => (nb x).length).sum
theorem wgt_add {ks : List Str} {nb : Str → List Str} {F : List Str} {x : Str} (n : ks.Nodup) (hx : x ∉ F) (h0 : x ∉ ks → nb x = []) : wgt ks nb (F ++ [x]) + (nb x).length = wgt ks nb F := by
  unfold wgt
  by_cases m : x ∈ ks
  · clear h0
    induction ks with
    | nil => simp at m
    | cons y ks ih =>
      rw [List.nodup_cons] at n
      rw [List.filter_cons, List.filter_cons]
      by_cases e : y = x
      · subst e
        have same : ks.filter (fun z => decide (z ∉ F ++ [y])) = ks.filter fun z => decide (z ∉ F) := by
          refine List.filter_congr fun z mz => ?_
          have : z ≠ y := fun w => n.1 (w ▸ mz)
          simp [this]
        rw [if_neg (by simp), if_pos (decide_eq_true hx), same, List.map_cons, List.sum_cons]
        omega
      · have mk : x ∈ ks := (List.mem_cons.mp m).elim (fun z => absurd z.symm e) id
        have ih := ih n.2 mk
        by_cases f : y ∈ F
        · rw [if_neg (by simp [f]), if_neg (by simp [f])]
          exact ih
        · rw [if_pos (by simp [f, e]), if_pos (by simp [f]), List.map_cons, List.map_cons, List.sum_cons, List.sum_cons]
          omega
  · rw [h0 m]
    have same : ks.filter (fun z => decide (z ∉ F ++ [x])) = ks.filter fun z => decide (z ∉ F) := by
      refine List.filter_congr fun z mz => ?_
      have : z ≠ x := fun w => m (w ▸ mz)
      simp [this]
    rw [same]
    rfl
section
variable {h : Hap} {P : D → Hap → Prop} {j : Nat} {nb : Str → List Str} {ks S : List Str} {d : D}
theorem reached_k (n : ks.Nodup) (h0 : ∀ x, x ∉ ks → nb x = []) (L : Lk h j nb) (hd : getQ d h = some (S.map .str)) (hd1 : ∀ g, getQ d (h ++ g) = some (S.map .str)) (hw : S.length + wgt ks nb [] < 100000)
    (k : ∀ F, F.Nodup → (∀ x, x ∈ F ↔ Rc nb S x) → P (.ref h.length) (h ++ [.dct (fD F), .lst []])) : Sat (Mi.m_reached [.ref j, d] h) P := by
  unfold Mi.m_reached Mi.b_reached
  refine x_fun (s_seq (s_asg' (x_dnew ?_)))
  dsimp only
  refine s_seq (s_asg' (x_celL (x_cons (x_var rfl (x_nil ⟨d, S.map .str, rfl, hd1 _, ?_⟩)))))
  have l1 : (h ++ [Cel.dct []]).length = h.length + 1 := by rw [List.length_append]; rfl
  rw [l1, List.append_assoc]
  refine s_seq (s_wh28 (fun m e h' => ∃ x4 F Lf, e = [some (.ref j), some d, some (.ref h.length), some (.ref (h.length + 1)), x4] ∧ h' = h ++ [.dct (fD F), .lst (Lf.map .str)] ∧ F.Nodup ∧ (∀ x ∈ F, Rc nb S x) ∧ (∀ x ∈ Lf, Rc nb S x) ∧ (∀ x ∈ S, x ∈ F ∨ x ∈ Lf) ∧ (∀ x ∈ F, ∀ y ∈ nb x, y ∈ F ∨ y ∈ Lf) ∧ Lf.length + wgt ks nb F = m ∧ F.length + m < 100000) ?_ 100000 (S.length + wgt ks nb []) _ _ hw ⟨_, [], S, rfl, rfl, List.nodup_nil, fun x m => (nomatch m), fun x m => .base m, fun x m => .inr m, fun x m => (nomatch m), rfl, by simpa using hw⟩)
  rintro m e h' ⟨x4, F, Lf, rfl, rfl, nF, rF, rL, cS, cF, em, bm⟩
  have gL : (h ++ [Cel.dct (fD F), .lst (Lf.map .str)])[h.length + 1]? = some (.lst (Lf.map .str)) := by rw [List.getElem?_append_right (Nat.le_succ _), show h.length + 1 - h.length = 1 by omega]; rfl
  refine x_truL (x_var rfl ⟨_, gl28 gL, fun t => ?_, fun t => ?_⟩)
  · have ne : Lf ≠ [] := fun z => by rw [z] at t; simp at t
    obtain ⟨Li, x, rfl⟩ : ∃ Li x, Lf = Li ++ [x] := ⟨_, _, (List.dropLast_concat_getLast ne).symm⟩
    refine s_seq (s_asg' (x_met (x_var rfl ⟨isl28 gL, x_nil ?_⟩)))
    unfold gPop0
    simp only []
    rw [gL]
    simp only []
    rw [show ((Li ++ [x]).map D.str)[((Li ++ [x]).map D.str).length - 1]? = some (D.str x) by rw [List.map_append, List.length_append, List.map_cons, List.map_nil, List.length_singleton, Nat.add_sub_cancel, List.getElem?_append_right (Nat.le_refl _), Nat.sub_self]; rfl]
    have st : ∀ (F' : List Str) (L1 L2 : List Str), (h ++ [Cel.dct (fD F'), .lst (L1.map .str)]).set (h.length + 1) (.lst (L2.map .str)) = h ++ [Cel.dct (fD F'), .lst (L2.map .str)] := fun F' L1 L2 => by
      rw [List.set_append_right _ _ (Nat.le_succ _), show h.length + 1 - h.length = 1 by omega]
      rfl
    have st0 : ∀ (F' F2 : List Str) (L1 : List Str), (h ++ [Cel.dct (fD F'), .lst (L1.map .str)]).set h.length (.dct (fD F2)) = h ++ [Cel.dct (fD F2), .lst (L1.map .str)] := fun F' F2 L1 => by
      rw [List.set_append_right _ _ (Nat.le_refl _), Nat.sub_self]
      rfl
    have gF : ∀ (F' L1 : List Str), (h ++ [Cel.dct (fD F'), .lst (L1.map .str)])[h.length]? = some (.dct (fD F')) := fun F' L1 => by rw [List.getElem?_append_right (Nat.le_refl _), Nat.sub_self]; rfl
    have gL2 : ∀ (F' L1 : List Str), (h ++ [Cel.dct (fD F'), .lst (L1.map .str)])[h.length + 1]? = some (.lst (L1.map .str)) := fun F' L1 => by rw [List.getElem?_append_right (Nat.le_succ _), show h.length + 1 - h.length = 1 by omega]; rfl
    have ed : ((Li ++ [x]).map D.str).dropLast = Li.map D.str := by rw [List.map_append]; exact List.dropLast_concat ..
    rw [ed]
    rw [st F (Li ++ [x]) Li]
    have rx : Rc nb S x := rL x (by simp)
    rw [List.length_append, List.length_singleton] at em
    dsimp only
    refine s_if' (x_tst (x_bin (x_var rfl (x_var rfl (v28_nin (gF F Li) (val_fD F x) (x_oB ⟨fun t => ?_, fun t => s_next ?_⟩))))))
    · have nx : x ∉ F := by simpa using t
      have wa := wgt_add (F := F) n nx (h0 x)
      refine s_seq (s_dsub' (x_c (x_var rfl (x_var rfl ⟨h ++ [.dct (fD (F ++ [x])), .lst (Li.map .str)], ?_, ?_⟩))))
      · have sz := sizeLine_eq
        unfold sDix
        simp only [keyD]
        rw [gF F Li]
        simp only []
        rw [if_pos (by unfold fD; rw [List.length_map]; omega)]
        have : putD (fD F) (.inr x) (.bl true) = fD (F ++ [x]) := by
          unfold putD fD
          rw [if_neg]
          · rw [List.map_append]; rfl
          · intro z
            obtain ⟨kv, m, e⟩ := List.any_eq_true.mp z
            obtain ⟨q, mq, rfl⟩ := List.mem_map.mp m
            exact nx (by rw [← Sum.inr.inj (of_decide_eq_true e)]; exact mq)
        rw [this, st0]
      · obtain ⟨kvs, ek, ax⟩ := L.app [.dct (fD (F ++ [x])), .lst (Li.map .str)]
        have fin : ∀ m', m' < m → (Li ++ nb x).length + wgt ks nb (F ++ [x]) = m' → ∃ m', m' < m ∧ ∃ (x4 : Option D) (F' Lf : List Str), ([some (.ref j), some d, some (.ref h.length), some (.ref (h.length + 1)), some (.str x)] : Env) = [some (.ref j), some d, some (.ref h.length), some (.ref (h.length + 1)), x4] ∧ h ++ [Cel.dct (fD (F ++ [x])), .lst ((Li ++ nb x).map .str)] = h ++ [Cel.dct (fD F'), .lst (Lf.map .str)] ∧ F'.Nodup ∧ (∀ x ∈ F', Rc nb S x) ∧ (∀ x ∈ Lf, Rc nb S x) ∧ (∀ x ∈ S, x ∈ F' ∨ x ∈ Lf) ∧ (∀ x ∈ F', ∀ y ∈ nb x, y ∈ F' ∨ y ∈ Lf) ∧ Lf.length + wgt ks nb F' = m' ∧ F'.length + m' < 100000 := fun m' lt em' => by
          refine ⟨m', lt, _, F ++ [x], Li ++ nb x, rfl, rfl, ?_, fun y my => ?_, fun y my => ?_, fun y my => ?_, fun y my z mz => ?_, em', ?_⟩
          · rw [List.nodup_append]
            exact ⟨nF, by simp, fun a ma b mb e => nx (by rw [← List.mem_singleton.mp mb, ← e]; exact ma)⟩
          · rcases List.mem_append.mp my with my | my
            · exact rF y my
            · rw [List.mem_singleton.mp my]; exact rx
          · rcases List.mem_append.mp my with my | my
            · exact rL y (List.mem_append_left _ my)
            · exact .step rx my
          · rcases cS y my with my | my
            · exact .inl (List.mem_append_left _ my)
            · rcases List.mem_append.mp my with my | my
              · exact .inr (List.mem_append_left _ my)
              · exact .inl (List.mem_append_right _ my)
          · rcases List.mem_append.mp my with my | my
            · rcases cF y my z mz with m2 | m2
              · exact .inl (List.mem_append_left _ m2)
              · rcases List.mem_append.mp m2 with m2 | m2
                · exact .inr (List.mem_append_left _ m2)
                · exact .inl (List.mem_append_right _ m2)
            · rw [List.mem_singleton.mp my] at mz
              exact .inr (List.mem_append_right _ mz)
          · rw [List.length_append, List.length_singleton]; omega
        have lt : (Li ++ nb x).length + wgt ks nb (F ++ [x]) < m := by rw [List.length_append]; omega
        dsimp only
        refine s_exp' (x_met (x_var rfl ⟨isl28 (gL2 (F ++ [x]) Li), x_cons (x_met (x_var rfl ⟨isd_at ek, x_cons (x_var rfl (x_cons (x_tup (x_nil ⟨sl_le (show 0 ≤ 16777216 by decide), x_nil (v28_get2 ek (x_nil (v28_ext (gL2 (F ++ [x]) Li) (ys := (nb x).map .str) ?_ ?_ ?_)))⟩))))⟩))⟩))
        · rcases ax x with a1 | ⟨d', a1, a2, a3⟩
          · exact .inl a1
          · rw [a1]; exact .inr ⟨a2, a3⟩
        · rw [List.length_map, List.length_map]
          rw [List.length_append] at lt
          omega
        · rw [← List.map_append, st (F ++ [x]) Li (Li ++ nb x)]
          exact fin _ lt rfl
    · have mx : x ∈ F := by simpa using t
      refine ⟨m - 1, by omega, _, F, Li, rfl, rfl, nF, rF, fun y my => rL y (List.mem_append_left _ my), fun y my => ?_, fun y my z mz => ?_, by omega, by omega⟩
      · rcases cS y my with my | my
        · exact .inl my
        · rcases List.mem_append.mp my with my | my
          · exact .inr my
          · rw [List.mem_singleton.mp my]; exact .inl mx
      · rcases cF y my z mz with m2 | m2
        · exact .inl m2
        · rcases List.mem_append.mp m2 with m2 | m2
          · exact .inr m2
          · rw [List.mem_singleton.mp m2]; exact .inl mx
  · have e : Lf = [] := by
      cases Lf with
      | nil => rfl
      | cons a b => simp at t
    subst e
    dsimp only
    refine s_ret' (x_var rfl (k F nF fun x => ⟨rF x, fun r => rc_closed (fun s m => (cS s m).elim id fun z => nomatch z) (fun a ma b mb => (cF a ma b mb).elim id fun z => nomatch z) r⟩))
end
end Vi

set_option Elab.async false
set_option linter.all false
set_option autoImplicit false
set_option maxRecDepth 100000
set_option maxHeartbeats 2000000
namespace Vi
open PySem PySem.Spec PyProof.Rows L2
open scoped Classical
local macro_rules | `(tactic| walk_at "x1") => `(tactic| with_reducible first
  | refine x_bin ?_ | refine x_tst ?_ | refine x_oB ?_ | refine x_c ?_ | refine s_seqA ?_ | refine s_seqU ?_ | refine s_seqE ?_ | refine s_seqN ?_ | refine s_seqD ?_ | refine s_seqF ?_ | refine s_seqL ?_ | refine s_asg' ?_ | refine s_if' ?_ | refine s_ret' ?_ | refine s_exp' ?_ | refine s_next ?_ | refine s_retN' ?_ | refine s_sub' ?_ | refine s_dsub' ?_ | refine s_setF' ?_ | refine s_ddel' ?_
  | refine x_cb ?_ | refine x_cons ?_ | refine x_nil ?_ | refine x_call ?_ | refine x_met ?_ | refine x_meth ?_ | refine x_make ?_ | refine x_fld ?_ | refine x_un ?_ | refine x_notT ?_ | refine x_andT ?_ | refine x_orT ?_ | refine x_and ?_ | refine x_or ?_ | refine x_not ?_ | refine x_if ?_
  | refine x_tup ?_ | refine x_lst ?_ | refine x_cel ?_ | refine x_dnew ?_ | refine x_sortIt ?_ | refine x_sl ?_ | refine x_noP ?_ | refine x_part ?_ | refine x_oI ?_ | refine x_mI ?_ | refine x_rng ?_ | refine x_yes ?_ | refine x_chn ?_ | refine x_fun ?_ | refine x_ok ?_)
local macro_rules | `(tactic| walk_at "x2") => `(tactic| first
  | ((with_reducible refine y_var ?_); refine ⟨_, rfl, ?_⟩)
  | ((with_reducible refine y_some ?_); refine ⟨_, rfl, ?_⟩)
  | ((with_reducible refine y_gP ?_); refine ⟨_, rfl, ?_⟩))
local macro_rules | `(tactic| walk_at "x") => `(tactic| repeat (first | walk_at "x1" | walk_at "x2" ))
local macro_rules | `(tactic| walk_at "nx") => `(tactic| (refine next_k (by assumption) (by assumption) (by first | decide | omega) (by first | decide | omega) ?_))
section
variable {env : Env} {h : Hap} {Q : Ps} {P : D → Hap → Prop}
/-! ### counts of what is missing -/
theorem s_aug28 {o i : ME} {j : Nat} {kvs : List (Key × D)} {z : Str} {n : Int} (ho : ∀ P : D → Hap → Prop, P (.ref j) h → Sat (o env h) P) (hi : ∀ P : D → Hap → Prop, P (.str z) h → Sat (i env h) P) (e : h[j]? = some (.dct kvs)) (hv : valD kvs (.inr z) = some (.int n)) (hl : kvs.length ≤ 1000000)
    (p : Q.n env (h.set j (.dct (putD kvs (.inr z) (.int (n - 1)))))) : SatS (mDAugS o i (mC (.int 1)) env h) Q := by
  unfold mDAugS
  refine SatS.of (ho _ (SatS.of (hi _ ?_)))
  have e1 : dDGet (.ref j) (.str z) h = some (.int n) := by
    unfold dDGet
    rw [dct_at e]
    exact hv
  rw [e1]
  simp only []
  refine SatS.of (x_c ?_)
  have e2 : dSub (.int n) (.int 1) h = some (.int (n - 1)) := rfl
  have e3 : sDix (.ref j) (.str z) (.int (n - 1)) h = some (h.set j (.dct (putD kvs (.inr z) (.int (n - 1))))) := by
    unfold sDix
    simp only [keyD]
    rw [e]
    simp only []
    rw [if_pos (by rw [sizeLine_eq]; omega)]
  simp only [e2, e3]
  exact p
theorem x_cbw {g : List D → Hap → Rs D} {a : MA} (s : Sat (a env h) fun ds h1 => Sat (g ds h1) P) : Sat (mCBw g a env h) P := Sat.bind s
theorem v28_pop {i : Nat} {ys : List Str} (e : h[i]? = some (.lst (ys.map .str))) (ne : ys ≠ []) (hl : ys.length ≤ 1000000) (p : P (.str (popS ys).1) (h.set i (.lst ((popS ys).2.map .str)))) : Sat (gHPop [.ref i] h) P := by
  unfold gHPop
  simp only []
  rw [e]
  simp only []
  rw [strsOf_map]
  simp only []
  rw [if_pos ⟨ne, hl⟩]
  exact p
theorem v28_push {i : Nat} {ys : List Str} {y : Str} (e : h[i]? = some (.lst (ys.map .str))) (hl : ys.length < 1000000) (p : P .non (h.set i (.lst ((pushS ys y).map .str)))) : Sat (gHPush [.ref i, .str y] h) P := by
  unfold gHPush
  simp only []
  rw [e]
  simp only []
  rw [strsOf_map]
  simp only []
  rw [if_pos hl]
  exact p
def mD (N : Nl) (f : Str → Int) : List (Key × D) := (ks28 N).map fun x => (.inr x, .int (f x))
theorem mD_val {N : Nl} {f : Str → Int} {x : Str} (m : x ∈ ks28 N) : valD (mD N f) (.inr x) = some (.int (f x)) := by unfold mD; rw [val28_map, if_pos m]
theorem mD_put {N : Nl} {f : Str → Int} {x : Str} {v : Int} (m : x ∈ ks28 N) : putD (mD N f) (.inr x) (.int v) = mD N fun y => if y = x then v else f y := by
  unfold mD putD
  rw [if_pos (List.any_eq_true.mpr ⟨(.inr x, .int (f x)), List.mem_map.mpr ⟨x, m, rfl⟩, decide_eq_true rfl⟩), List.map_map]
  refine List.map_congr_left fun y _ => ?_
  show (if (Sum.inr y : Key) = .inr x then _ else _) = _
  by_cases e : y = x
  · rw [if_pos (by rw [e])]
    show ((Sum.inr y : Key), D.int v) = (Sum.inr y, D.int (if y = x then v else f y))
    rw [if_pos e]
  · rw [if_neg (fun z => e (Sum.inr.inj z))]
    show ((Sum.inr y : Key), D.int (f y)) = (Sum.inr y, D.int (if y = x then v else f y))
    rw [if_neg e]
theorem set_back {h g : Hap} {j : Nat} {a b : Cel} (e : h[j]? = some b) : ((h.set j a) ++ g).set j b = h ++ g := by
  have jl := (List.getElem?_eq_some_iff.mp e).1
  rw [List.set_append_left _ _ (by rw [List.length_set]; exact jl), List.set_set]
  congr 1
  refine List.ext_getElem? fun n => ?_
  by_cases z : n = j
  · rw [z, List.getElem?_set_self jl, e]
  · rw [List.getElem?_set_ne (Ne.symm z)]
theorem srt28 (xs : List Str) (hl : xs.length ≤ 1000000) : Srt (xs.map D.str) where
  py := fun x m => by
    obtain ⟨r, _, rfl⟩ := List.mem_map.mp m
    rfl
  alike := fun x m y m2 => by
    rw [List.map_map] at m m2
    obtain ⟨r, _, rfl⟩ := List.mem_map.mp m
    obtain ⟨r2, _, rfl⟩ := List.mem_map.mp m2
    rfl
  able := .inr fun x m => by
    rw [List.map_map] at m
    obtain ⟨r, _, rfl⟩ := List.mem_map.mp m
    exact ⟨fun z => (nomatch z), fun _ z => nomatch z⟩
  deep := fun x m => by
    obtain ⟨r, _, rfl⟩ := List.mem_map.mp m
    show PyData.depth (.str r) ≤ 40
    simp [PyData.depth]
  few := by rw [List.length_map]; exact sl_le (by omega)
def le28 (a b : Str) : Bool := leD (.str a) (.str b)
theorem le28_iff (a b : Str) : le28 a b = true ↔ leT a b := by
  have z := congrFun (congrFun (PySem.W.dataLe_str (fun b : Str => b)) a) b
  have h : le28 a b = decide (a.cps.toList ≤ b.cps.toList) := z
  rw [h, decide_eq_true_iff]
  exact .rfl
theorem sort28 (xs : List Str) : (xs.map D.str).mergeSort leD = (xs.mergeSort le28).map D.str := (PySem.W.sort_maps D.str fun _ _ _ _ => rfl).symm
theorem sort28_pw (xs : List Str) : (xs.mergeSort le28).Pairwise leT := by
  have := List.pairwise_mergeSort (le := le28) (fun a b c h1 h2 => (le28_iff a c).mpr (leT_trans ((le28_iff a b).mp h1) ((le28_iff b c).mp h2))) (fun a b => by
    rw [Bool.or_eq_true, le28_iff, le28_iff]
    exact leT_total a b
    ) xs
  exact this.imp fun {a b} z => (le28_iff a b).mp z
theorem ord_mis {N : Nl} (n : (ks28 N).Nodup) : ∀ k, ∀ y ∈ ordG N k, mis N (ordG N k) y = 0
  | 0, y, m => nomatch m
  | k + 1, y, m => by
    rw [ordG] at m ⊢
    unfold nxt at m ⊢
    cases q : rdy N (ordG N k) with
    | nil => rw [q] at m; exact ord_mis n k y m
    | cons x xs =>
      rw [q] at m
      simp only [] at m ⊢
      obtain ⟨d, _⟩ := mn_least x xs
      rw [← q] at d
      obtain ⟨_, d2, d3⟩ := (rdy_mem n).mp d
      have a := (mis_count (N := N) d2 y).2
      rcases List.mem_append.mp m with m | m
      · have := ord_mis n k y m; omega
      · rw [List.mem_singleton.mp m] at a ⊢
        omega
end
section
variable {h : Hap} {P : D → Hap → Prop} {N : Nl} {j : Nat}
def keyS : D → Key
  | .str a => .inr a
  | _ => .inl 0
def lenS (N : Nl) : D → D
  | .str a => .int ((nbs N a).length : Int)
  | d => d
def pZ (N : Nl) : D → Bool
  | .str a => decide (((nbs N a).length : Int) = 0)
  | _ => false
theorem ordered_k {wb : Bool} (n : (ks28 N).Nodup) (cl : ∀ r ∈ N, ∀ y ∈ r.2, y ∈ ks28 N) (hl : N.length ≤ 1000) (hr : ∀ r ∈ N, r.2.length ≤ 100) (hj : h[j]? = some (.dct (nD wb N)))
    (k : ∀ o h', h'[o]? = some (.lst ((ordG N N.length).map .str)) → (∀ m, m < h.length → h'[m]? = h[m]?) → h.length ≤ h'.length → P (.ref o) h') : Sat (Mi.m_ordered [.ref j] h) P := by
  unfold Mi.m_ordered Mi.b_ordered
  have jl := (List.getElem?_eq_some_iff.mp hj).1
  have kl : (ks28 N).length = N.length := by rw [ks28, List.length_map]
  refine x_fun (s_seq (s_asg' (x_call (x_cons (x_var rfl (x_nil (turned_k n cl hl hr hj fun h1 T => ?_)))))))
  have hj1 : h1[j]? = some (.dct (nD wb N)) := (T.lo j jl).trans hj
  have jl1 := (List.getElem?_eq_some_iff.mp hj1).1
  have lk1 : (h1.set j (.lok (nD wb N)))[j]? = some (.lok (nD wb N)) := List.getElem?_set_self jl1
  have keys : (nD wb N).map (fun kv => keyV kv.1) = (ks28 N).map D.str := by unfold nD ks28; rw [List.map_map, List.map_map]; rfl
  dsimp only
  refine s_seq (s_asg' (x_lokG (g := gVr 0) (j := j) (kds := nD wb N) rfl hj1 (x_dcompFM ((ks28 N).map D.str) (fun _ => true) keyS (lenS N) (by rw [List.length_map, kl]; exact sl_le (by omega)) ((x_IK28 (j := j) (kds := nD wb N) rfl lk1).mono fun s h2 z => ⟨z.1, z.2.1.trans keys, by rw [z.2.2]; exact lk1⟩) (fun x mx => ?_) ?_)))
  · obtain ⟨a, ma, rfl⟩ := List.mem_map.mp mx
    obtain ⟨r, mr, rfl⟩ := List.mem_map.mp ma
    refine ⟨_, rfl, rfl, rfl, fun _ => x_var rfl ⟨rfl, rfl, x_cb (x_cons (x_bin (x_var rfl (x_var rfl (v28_subL (d := wD wb (r.2.map .str)) lk1 (val_nD n mr) (x_nil ?_))))))⟩⟩
    refine v_lenQ (xs := r.2.map .str) (gq_wD _ _ _) (fun z => by cases wb <;> simp [wD]) ⟨rfl, ?_⟩
    rw [List.length_map]
    show _ = D.int ((nbs N r.1).length : Int)
    rw [nbs_row n mr]
  rw [show ((ks28 N).map D.str).filter (fun _ => true) = (ks28 N).map D.str from List.filter_eq_self.mpr fun _ _ => rfl, put_fold _ _ (by rw [List.map_nil, List.nil_append, List.map_map]; exact inr_nodup n), List.nil_append, List.map_map, List.length_set]
  have e0 : (ks28 N).map ((fun x => (keyS x, lenS N x)) ∘ D.str) = mD N fun x => ((nbs N x).length : Int) := rfl
  rw [e0]
  refine ⟨by rw [List.getElem?_append_left (by rw [List.length_set]; exact jl1)]; exact lk1, ?_⟩
  rw [set_back hj1]
  have hj2 : (h1 ++ [Cel.dct (mD N fun x => ((nbs N x).length : Int))])[j]? = some (.dct (nD wb N)) := by rw [List.getElem?_append_left jl1]; exact hj1
  have jl2 := (List.getElem?_eq_some_iff.mp hj2).1
  have lk2 : ((h1 ++ [Cel.dct (mD N fun x => ((nbs N x).length : Int))]).set j (.lok (nD wb N)))[j]? = some (.lok (nD wb N)) := List.getElem?_set_self jl2
  have mq : ((h1 ++ [Cel.dct (mD N fun x => ((nbs N x).length : Int))]).set j (.lok (nD wb N)))[h1.length]? = some (.dct (mD N fun x => ((nbs N x).length : Int))) := by
    rw [List.getElem?_set_ne (by omega), List.getElem?_append_right (Nat.le_refl _), Nat.sub_self]
    rfl
  dsimp only
  refine s_seq (s_asg' (x_celSo (x_cons (x_lokE28 (j := j) (kds := nD wb N) rfl hj2 (x_compFM ((ks28 N).map D.str) (pZ N) (fun d => d) (by rw [List.length_map, kl]; exact sl_le (by omega)) ((x_IK28 (j := j) (kds := nD wb N) rfl lk2).mono fun s h2 z => ⟨z.1, z.2.1.trans keys, by rw [z.2.2]; exact lk2⟩) (fun x mx => ?_) ?_)))))
  · obtain ⟨a, ma, rfl⟩ := List.mem_map.mp mx
    exact ⟨_, rfl, x_tst (x_bin (x_bin (x_var rfl (x_var rfl (v28_sub mq (mD_val ma) (x_c (x_some (d := .bl (decide (((nbs N a).length : Int) = 0))) rfl (x_oB ⟨rfl, rfl, fun _ => x_var rfl ⟨rfl, rfl⟩⟩))))))))⟩
  have eb : (h1 ++ [Cel.dct (mD N fun x => ((nbs N x).length : Int))]).set j (.dct (nD wb N)) = h1 ++ [Cel.dct (mD N fun x => ((nbs N x).length : Int))] := by
    have z := set_back (g := []) (a := .lok (nD wb N)) hj2
    rw [List.append_nil, List.append_nil, List.set_set] at z
    exact z
  have ef : (((ks28 N).map D.str).filter (pZ N)).map (fun d => d) = ((ks28 N).filter fun a => decide (((nbs N a).length : Int) = 0)).map D.str := by rw [List.map_id', List.filter_map]; rfl
  refine ⟨lk2, ?_⟩
  rw [ef, List.set_set, eb]
  have sl0 : ((ks28 N).filter fun a => decide (((nbs N a).length : Int) = 0)).length ≤ 1000000 := Nat.le_trans (List.length_filter_le _ _) (by omega)
  refine x_nil ⟨_, _, rfl, rfl, srt28 _ sl0, ?_⟩
  rw [sort28]
  have hm0 : ∀ x, mis N [] x = (nbs N x).length := fun x => by unfold mis; rw [List.filter_eq_self.mpr fun y _ => by simp]
  have q0 : ∀ x, x ∈ ((ks28 N).filter fun a => decide (((nbs N a).length : Int) = 0)).mergeSort le28 ↔ x ∈ rdy N (ordG N 0) := fun x => by
    rw [List.mem_mergeSort, List.mem_filter, rdy_mem n, ordG, hm0, decide_eq_true_iff]
    constructor
    · exact fun z => ⟨z.1, by simp, by omega⟩
    · exact fun z => ⟨z.1, by omega⟩
  have qn : (((ks28 N).filter fun a => decide (((nbs N a).length : Int) = 0)).mergeSort le28).Nodup := (List.mergeSort_perm _ _).nodup_iff.mpr (List.filter_sublist.nodup n)
  have qh := sorted_heap (sort28_pw ((ks28 N).filter fun a => decide (((nbs N a).length : Int) = 0)))
  generalize ((ks28 N).filter fun a => decide (((nbs N a).length : Int) = 0)).mergeSort le28 = Q0 at q0 qn qh ⊢
  have l2 : (h1 ++ [Cel.dct (mD N fun x => ((nbs N x).length : Int))]).length = h1.length + 1 := by rw [List.length_append]; rfl
  rw [l2]
  dsimp only
  refine s_seq (s_asg' (x_cel (x_nil ⟨sl_le (show 0 ≤ 16777216 by decide), ?_⟩)))
  have l3 : (h1 ++ [Cel.dct (mD N fun x => ((nbs N x).length : Int))] ++ [Cel.lst (Q0.map D.str)]).length = h1.length + 2 := by rw [List.length_append, l2]; rfl
  rw [l3, List.append_assoc, List.append_assoc]
  have em0 : (fun x => ((nbs N x).length : Int)) = fun x => (mis N (ordG N 0) x : Int) := by
    funext x
    rw [ordG, hm0]
  rw [em0]
  clear em0 hm0 l2 l3 eb ef sl0 e0 mq lk2 hj2 jl2
  have ge : ∀ (a b c : Cel), (h1 ++ [a, b, c])[h1.length]? = some a ∧ (h1 ++ [a, b, c])[h1.length + 1]? = some b ∧ (h1 ++ [a, b, c])[h1.length + 2]? = some c := fun a b c => by
    refine ⟨?_, ?_, ?_⟩
    · rw [List.getElem?_append_right (Nat.le_refl _), Nat.sub_self]; rfl
    · rw [List.getElem?_append_right (by omega), show h1.length + 1 - h1.length = 1 by omega]; rfl
    · rw [List.getElem?_append_right (by omega), show h1.length + 2 - h1.length = 2 by omega]; rfl
  have se : ∀ (a b c z : Cel), (h1 ++ [a, b, c]).set h1.length z = h1 ++ [z, b, c] ∧ (h1 ++ [a, b, c]).set (h1.length + 1) z = h1 ++ [a, z, c] ∧ (h1 ++ [a, b, c]).set (h1.length + 2) z = h1 ++ [a, b, z] := fun a b c z => by
    refine ⟨?_, ?_, ?_⟩
    · rw [List.set_append_right _ _ (Nat.le_refl _), Nat.sub_self]; rfl
    · rw [List.set_append_right _ _ (by omega), show h1.length + 1 - h1.length = 1 by omega]; rfl
    · rw [List.set_append_right _ _ (by omega), show h1.length + 2 - h1.length = 2 by omega]; rfl
  have gl : ∀ (g : Hap) {m : Nat} {c : Cel}, h1[m]? = some c → (h1 ++ g)[m]? = some c := fun g m c e => by
    rw [List.getElem?_append_left (List.getElem?_eq_some_iff.mp e).1]; exact e
  refine s_seq (s_wh28 (fun m e h' => ∃ x5 x6 k Qs, e = [some (.ref j), some (.ref (h.length + N.length)), some (.ref h1.length), some (.ref (h1.length + 1)), some (.ref (h1.length + 2)), x5, x6] ∧ h' = h1 ++ [.dct (mD N fun x => (mis N (ordG N k) x : Int)), .lst (Qs.map .str), .lst ((ordG N k).map .str)] ∧ (ordG N k).length = k ∧ IsH Qs ∧ Qs.Nodup ∧ (∀ x, x ∈ Qs ↔ x ∈ rdy N (ordG N k)) ∧ m + k = N.length) ?_ 100000 N.length _ _ (by omega) ⟨_, _, 0, Q0, rfl, rfl, rfl, qh, qn, q0, rfl⟩)
  rintro m e h' ⟨x5, x6, k', Qs, rfl, rfl, ok, iH, nQ, mQ, em⟩
  obtain ⟨on, os, _⟩ := ord_facts n k'
  refine x_truL (x_var rfl ⟨_, gl28 (ge _ _ _).2.1, fun t => ?_, fun t => ?_⟩)
  · have ne : Qs ≠ [] := fun z => by rw [z] at t; simp at t
    have lQ : Qs.length ≤ N.length := by
      have := nodup_sub_len nQ fun x mx => ((rdy_mem n).mp ((mQ x).mp mx)).1
      rwa [kl] at this
    obtain ⟨p1, p2, p3⟩ := pop_heap iH ne
    refine s_seq (s_asg' (x_cbw (x_cons (x_var rfl (x_nil (v28_pop (ge _ _ _).2.1 ne (by omega) ?_))))))
    rw [(se _ _ _ _).2.1]
    generalize (popS Qs).1 = x at p2 p3 ⊢
    generalize (popS Qs).2 = Q1 at p1 p2 ⊢
    have mxQ : x ∈ Qs := p2.mem_iff.mp List.mem_cons_self
    have mxR := (mQ x).mp mxQ
    obtain ⟨kx, nx, mx0⟩ := (rdy_mem n).mp mxR
    have nd1 : (x :: Q1).Nodup := p2.nodup_iff.mpr nQ
    rw [List.nodup_cons] at nd1
    have mQ1 : ∀ y, y ∈ Q1 ↔ y ∈ rdy N (ordG N k') ∧ y ≠ x := fun y => by
      rw [← mQ y, ← p2.mem_iff, List.mem_cons]
      constructor
      · exact fun z => ⟨.inr z, fun w => nd1.1 (w ▸ z)⟩
      · exact fun z => z.1.elim (fun w => absurd w z.2) id
    have eN : ordG N (k' + 1) = ordG N k' ++ [x] := by
      rw [ordG]
      exact nxt_min mxR fun y my => p3 y ((mQ y).mpr my)
    have mc := fun u => mis_count (N := N) nx u
    have tc := fun u => tws_count n x u
    have om := ord_mis n k'
    have lO : (ordG N k').length < 1000000 := by omega
    generalize hO : ordG N k' = O at *
    dsimp only
    refine s_seq (s_exp' (x_met (x_var rfl ⟨isl28 (ge _ _ _).2.2, x_cons (x_var rfl (x_nil (v28_app (ge _ _ _).2.2 (by rw [List.length_map]; exact lO) ?_)))⟩)))
    rw [(se _ _ _ _).2.2]
    have eO : O.map D.str ++ [D.str x] = (O ++ [x]).map D.str := by rw [List.map_append]; rfl
    rw [eO]
    have lx := ix_lt kx
    have hd : ∀ g : Hap, (h1 ++ g)[h.length + N.length]? = some (.dct (tD h.length N)) := fun g => gl g T.di
    have hc : ∀ g : Hap, (h1 ++ g)[h.length + (ks28 N).idxOf x]? = some (.lst ((tws N x).map .str)) := fun g => gl g (T.ce x kx)
    dsimp only
    refine s_forI (fun pre post e h' => ∃ us ws x6 Q2, tws N x = us ++ ws ∧ pre = us.map D.str ∧ e = [some (.ref j), some (.ref (h.length + N.length)), some (.ref h1.length), some (.ref (h1.length + 1)), some (.ref (h1.length + 2)), some (.str x), x6] ∧ h' = h1 ++ [.dct (mD N fun l => (mis N O l : Int) - (us.count l : Int)), .lst (Q2.map .str), .lst ((O ++ [x]).map .str)] ∧ IsH Q2 ∧ Q2.Nodup ∧ ∀ y, y ∈ Q2 ↔ (y ∈ rdy N O ∧ y ≠ x) ∨ (0 < us.count y ∧ us.count y = mis N O y)) ?_
    refine x_mI (x_bin (x_var rfl (x_var rfl (v28_sub (hd _) (d := .ref (h.length + (ks28 N).idxOf x)) (by unfold tD; rw [val28_map, if_pos kx]) ⟨(tws N x).map .str, sq28 (hc _), ?_, ?_, ?_, ?_⟩))))
    · refine ⟨[], tws N x, _, Q1, rfl, rfl, rfl, ?_, p1, nd1.2, fun y => ?_⟩
      · simp
      · rw [mQ1 y]
        simp
    · rintro pre post e h' _ ⟨us, ws, x6, Q2, _, _, _, rfl, _⟩
      exact sq28 (hc _)
    · rintro pre y post e h' hx ⟨us, ws, x6, Q2, et, rfl, rfl, rfl, h2, n2, m2⟩
      have hx : (tws N x).map D.str = _ := hx
      rw [et, List.map_append] at hx
      have hx := List.append_cancel_left hx
      obtain ⟨u, ws', rfl, rfl⟩ : ∃ u ws', ws = u :: ws' ∧ y = .str u := by
        cases ws with
        | nil => simp at hx
        | cons u ws' => exact ⟨u, ws', rfl, (List.cons.inj hx).1.symm⟩
      have mu : u ∈ tws N x := by rw [et]; simp
      have ku : u ∈ ks28 N := nbs_key ((tws_mem n).mp mu)
      have cu : us.count u + 1 + ws'.count u = (nbs N u).count x := by
        rw [← tc u, et, List.count_append, List.count_cons_self]
        omega
      have mcu := (mc u).1
      refine ⟨_, rfl, ?_⟩
      refine s_seq (s_aug28 (j := h1.length) (z := u) (fun P p => x_var rfl p) (fun P p => x_var rfl p) (ge _ _ _).1 (mD_val ku) (by unfold mD; rw [List.length_map, kl]; omega) ?_)
      rw [mD_put ku, (se _ _ _ _).1]
      have ef : (fun y => if y = u then (mis N O u : Int) - (us.count u : Int) - 1 else (mis N O y : Int) - (us.count y : Int)) = fun l => (mis N O l : Int) - ((us ++ [u]).count l : Int) := by
        funext l
        by_cases e : l = u
        · subst e
          rw [if_pos rfl, List.count_append, List.count_singleton_self]
          omega
        · rw [if_neg e, List.count_append, List.count_eq_zero.mpr (show l ∉ [u] from fun m => e (List.mem_singleton.mp m)), Nat.add_zero]
      rw [ef]
      have cs : (us ++ [u]).count u = us.count u + 1 := by rw [List.count_append, List.count_singleton_self]
      have cn : ∀ y, y ≠ u → (us ++ [u]).count y = us.count y := fun y e => by rw [List.count_append, List.count_eq_zero.mpr (show y ∉ [u] from fun m => e (List.mem_singleton.mp m)), Nat.add_zero]
      have lQ2 : Q2.length ≤ N.length := by
        have := nodup_sub_len n2 fun y my => show y ∈ ks28 N from by
          rcases (m2 y).mp my with z | z
          · exact ((rdy_mem n).mp z.1).1
          · have : y ∈ tws N x := by
              rw [et]
              exact List.mem_append_left _ (List.count_pos_iff.mp z.1)
            exact nbs_key ((tws_mem n).mp this)
        rwa [kl] at this
      have nu : u ∉ Q2 := fun m => by
        rcases (m2 u).mp m with z | z
        · have := ((rdy_mem n).mp z.1).2.2
          omega
        · omega
      dsimp only
      refine s_if' (x_tst (x_bin (x_bin (x_var rfl (x_var rfl (v28_sub (ge _ _ _).1 (mD_val ku) (x_c (x_some (d := .bl (decide ((mis N O u : Int) - ((us ++ [u]).count u : Int) = 0))) rfl (x_oB ⟨fun t => ?_, fun t => s_next ?_⟩)))))))))
      · have t : (mis N O u : Int) - ((us ++ [u]).count u : Int) = 0 := of_decide_eq_true t
        obtain ⟨q1, q2⟩ := push_heap (y := u) h2
        refine s_exp' (x_cbw (x_cons (x_var rfl (x_cons (x_var rfl (x_nil (v28_push (ge _ _ _).2.1 (by omega) ?_)))))))
        rw [(se _ _ _ _).2.1]
        refine ⟨us ++ [u], ws', _, pushS Q2 u, by rw [et]; simp, by rw [List.map_append]; rfl, rfl, rfl, q1, q2.nodup_iff.mpr (List.nodup_cons.mpr ⟨nu, n2⟩), fun y => ?_⟩
        rw [q2.mem_iff, List.mem_cons, m2 y]
        by_cases e : y = u
        · subst e
          exact ⟨fun _ => .inr ⟨by omega, by omega⟩, fun _ => .inl rfl⟩
        · rw [cn y e]
          exact ⟨fun z => z.elim (fun w => absurd w e) id, .inr⟩
      · have t : ¬ (mis N O u : Int) - ((us ++ [u]).count u : Int) = 0 := of_decide_eq_false t
        refine ⟨us ++ [u], ws', _, Q2, by rw [et]; simp, by rw [List.map_append]; rfl, rfl, rfl, h2, n2, fun y => ?_⟩
        rw [m2 y]
        by_cases e : y = u
        · subst e
          constructor
          · rintro (z | z)
            · have := ((rdy_mem n).mp z.1).2.2
              omega
            · omega
          · rintro (z | z)
            · exact .inl z
            · omega
        · rw [cn y e]
    · rintro e h' ⟨us, ws, x6, Q2, et, e2, rfl, rfl, h2, n2, m2⟩
      have e2 : (tws N x).map D.str = us.map D.str := e2
      have eu : tws N x = us := (List.map_inj_right fun p q w => D.str.inj w).mp e2
      have la := congrArg List.length e2
      rw [List.length_map, List.length_map] at la
      have lk' : k' + 1 ≤ N.length := by
        have := nodup_sub_len (a := O ++ [x]) (b := ks28 N) (by
          rw [List.nodup_append]
          exact ⟨on, by simp, fun a ma b mb e => nx (by rw [← List.mem_singleton.mp mb, ← e]; exact ma)⟩) fun y my => by
            rcases List.mem_append.mp my with my | my
            · exact os y my
            · rw [List.mem_singleton.mp my]; exact kx
        rw [kl, List.length_append, ok] at this
        exact this
      refine ⟨m - 1, by omega, _, _, k' + 1, Q2, rfl, ?_, by rw [eN, List.length_append, ok]; rfl, h2, n2, fun y => ?_, by omega⟩
      · rw [eN]
        have ef : (fun l => (mis N O l : Int) - (us.count l : Int)) = fun l => (mis N (O ++ [x]) l : Int) := by
          funext l
          have a := (mc l).2
          have b := tc l
          rw [eu] at b
          omega
        rw [ef]
      · rw [m2 y, eN, rdy_mem n, rdy_mem n]
        have a := (mc y).2
        have b := tc y
        rw [eu] at b
        constructor
        · rintro (⟨⟨z1, z2, z3⟩, z4⟩ | ⟨z1, z2⟩)
          · exact ⟨z1, fun w => (List.mem_append.mp w).elim z2 fun w => z4 (List.mem_singleton.mp w), by omega⟩
          · refine ⟨nbs_key ((tws_mem n).mp (by rw [eu]; exact List.count_pos_iff.mp z1)), fun w => ?_, by omega⟩
            rcases List.mem_append.mp w with w | w
            · have := om y w; omega
            · rw [List.mem_singleton.mp w] at z1 z2; omega
        · rintro ⟨z1, z2, z3⟩
          have z4 : y ∉ O := fun w => z2 (List.mem_append_left _ w)
          have z5 : y ≠ x := fun w => z2 (by rw [w]; simp)
          by_cases c : us.count y = 0
          · exact .inl ⟨⟨z1, z4, by omega⟩, z5⟩
          · exact .inr ⟨by omega, by omega⟩
  · have e : Qs = [] := by
      cases Qs with
      | nil => rfl
      | cons a b => simp at t
    subst e
    have re : rdy N (ordG N k') = [] := by
      cases q : rdy N (ordG N k') with
      | nil => rfl
      | cons a b => exact absurd ((mQ a).mpr (by rw [q]; exact List.mem_cons_self)) (by simp)
    rw [ord_end n ok re]
    dsimp only
    refine s_ret' (x_var rfl (k _ _ (ge _ _ _).2.2 (fun m hm => ?_) (by have := T.ln; rw [List.length_append]; omega)))
    have := T.ln
    rw [List.getElem?_append_left (by omega)]
    exact T.lo m hm
end
end Vi

set_option Elab.async false
set_option linter.all false
set_option autoImplicit false
set_option maxRecDepth 100000
set_option maxHeartbeats 2000000
namespace Vi
open PySem PySem.Spec PyProof.Rows L2
open scoped Classical
local macro_rules | `(tactic| walk_at "x1") => `(tactic| with_reducible first
  | refine x_bin ?_ | refine x_tst ?_ | refine x_oB ?_ | refine x_c ?_ | refine s_seqA ?_ | refine s_seqU ?_ | refine s_seqE ?_ | refine s_seqN ?_ | refine s_seqD ?_ | refine s_seqF ?_ | refine s_seqL ?_ | refine s_asg' ?_ | refine s_if' ?_ | refine s_ret' ?_ | refine s_exp' ?_ | refine s_next ?_ | refine s_retN' ?_ | refine s_sub' ?_ | refine s_dsub' ?_ | refine s_setF' ?_ | refine s_ddel' ?_
  | refine x_cb ?_ | refine x_cons ?_ | refine x_nil ?_ | refine x_call ?_ | refine x_met ?_ | refine x_meth ?_ | refine x_make ?_ | refine x_fld ?_ | refine x_un ?_ | refine x_notT ?_ | refine x_andT ?_ | refine x_orT ?_ | refine x_and ?_ | refine x_or ?_ | refine x_not ?_ | refine x_if ?_
  | refine x_tup ?_ | refine x_lst ?_ | refine x_cel ?_ | refine x_dnew ?_ | refine x_sortIt ?_ | refine x_sl ?_ | refine x_noP ?_ | refine x_part ?_ | refine x_oI ?_ | refine x_mI ?_ | refine x_rng ?_ | refine x_yes ?_ | refine x_chn ?_ | refine x_fun ?_ | refine x_ok ?_)
local macro_rules | `(tactic| walk_at "x2") => `(tactic| first
  | ((with_reducible refine y_var ?_); refine ⟨_, rfl, ?_⟩)
  | ((with_reducible refine y_some ?_); refine ⟨_, rfl, ?_⟩)
  | ((with_reducible refine y_gP ?_); refine ⟨_, rfl, ?_⟩))
local macro_rules | `(tactic| walk_at "x") => `(tactic| repeat (first | walk_at "x1" | walk_at "x2" ))
local macro_rules | `(tactic| walk_at "nx") => `(tactic| (refine next_k (by assumption) (by assumption) (by first | decide | omega) (by first | decide | omega) ?_))
section
variable {h : Hap} {P : D → Hap → Prop} {G : List R5} {l : Str} {S : List Str}
def getG (G : List R5) (l : Str) : Option R5 := G.find? fun r => decide (r.1 = l)
/-- what a graph of the law keeps to -/
structure Gk (G : List R5) : Prop where
  n : (G.map (·.1)).Nodup
  cl : ∀ r ∈ G, ∀ y ∈ r.2.2.2.2, y ∈ G.map (·.1)
  hl : G.length ≤ 70
  hr : ∀ r ∈ G, r.2.2.2.2.length ≤ 10 ∧ r.2.2.2.1.length ≤ 10
theorem Gk.ks (g : Gk G) : ks28 (NG G) = G.map (·.1) := by rw [ks28, List.map_map]; rfl
theorem Gk.nd (g : Gk G) : (ks28 (NG G)).Nodup := by rw [g.ks]; exact g.n
theorem Gk.cls (g : Gk G) : ∀ r ∈ NG G, ∀ y ∈ r.2, y ∈ ks28 (NG G) := fun r m y my => by
  obtain ⟨q, mq, rfl⟩ := List.mem_map.mp m
  rw [g.ks]
  exact g.cl q mq y my
theorem Gk.len (g : Gk G) : (NG G).length ≤ 1000 := by rw [List.length_map]; have := g.hl; omega
theorem Gk.row (g : Gk G) : ∀ r ∈ NG G, r.2.length ≤ 10 := fun r m => by
  obtain ⟨q, mq, rfl⟩ := List.mem_map.mp m
  exact (g.hr q mq).1
theorem Gk.ins (g : Gk G) : ∀ r ∈ G, (inD r).length ≤ 1000 := fun r m => by
  have := g.hr r m
  rw [in_len]
  omega
theorem sum_le {α : Type} {f : α → Nat} {c : Nat} : ∀ {l : List α}, (∀ x ∈ l, f x ≤ c) → (l.map f).sum ≤ l.length * c
  | [], _ => Nat.zero_le _
  | x :: l, hx => by
    have a := sum_le (f := f) (c := c) (l := l) fun y m => hx y (List.mem_cons_of_mem _ m)
    have b := hx x List.mem_cons_self
    rw [List.map_cons, List.sum_cons, List.length_cons, Nat.succ_mul]
    omega
theorem wgt_le {ks : List Str} {nb : Str → List Str} {c : Nat} (hc : ∀ x, (nb x).length ≤ c) : wgt ks nb [] ≤ ks.length * c := by
  unfold wgt
  have a := sum_le (f := fun x => (nb x).length) (c := c) (l := ks.filter fun x => decide (x ∉ ([] : List Str))) fun x _ => hc x
  have b := List.length_filter_le (fun x => decide (x ∉ ([] : List Str))) ks
  exact Nat.le_trans a (Nat.mul_le_mul_right _ b)
theorem nbs_len (g : Gk G) (x : Str) : (nbs (NG G) x).length ≤ 10 := by
  by_cases m : x ∈ ks28 (NG G)
  · obtain ⟨r, mr, rfl⟩ := List.mem_map.mp m
    rw [nbs_row g.nd mr]
    exact g.row r mr
  · rw [nbs_none m]; exact Nat.zero_le _
/-- the labels that are reached -/
noncomputable def rcB (nb : Str → List Str) (S : List Str) (x : Str) : Bool := decide (Rc nb S x)
def hd5 : D → D
  | .tup (a :: _) => a
  | d => d
end
end Vi

set_option Elab.async false
set_option linter.all false
set_option autoImplicit false
set_option maxRecDepth 100000
set_option maxHeartbeats 2000000
namespace Vi
open PySem PySem.Spec PyProof.Rows L2
open scoped Classical
local macro_rules | `(tactic| walk_at "x1") => `(tactic| with_reducible first
  | refine x_bin ?_ | refine x_tst ?_ | refine x_oB ?_ | refine x_c ?_ | refine s_seqA ?_ | refine s_seqU ?_ | refine s_seqE ?_ | refine s_seqN ?_ | refine s_seqD ?_ | refine s_seqF ?_ | refine s_seqL ?_ | refine s_asg' ?_ | refine s_if' ?_ | refine s_ret' ?_ | refine s_exp' ?_ | refine s_next ?_ | refine s_retN' ?_ | refine s_sub' ?_ | refine s_dsub' ?_ | refine s_setF' ?_ | refine s_ddel' ?_
  | refine x_cb ?_ | refine x_cons ?_ | refine x_nil ?_ | refine x_call ?_ | refine x_met ?_ | refine x_meth ?_ | refine x_make ?_ | refine x_fld ?_ | refine x_un ?_ | refine x_notT ?_ | refine x_andT ?_ | refine x_orT ?_ | refine x_and ?_ | refine x_or ?_ | refine x_not ?_ | refine x_if ?_
  | refine x_tup ?_ | refine x_lst ?_ | refine x_cel ?_ | refine x_dnew ?_ | refine x_sortIt ?_ | refine x_sl ?_ | refine x_noP ?_ | refine x_part ?_ | refine x_oI ?_ | refine x_mI ?_ | refine x_rng ?_ | refine x_yes ?_ | refine x_chn ?_ | refine x_fun ?_ | refine x_ok ?_)
local macro_rules | `(tactic| walk_at "x2") => `(tactic| first
  | ((with_reducible refine y_var ?_); refine ⟨_, rfl, ?_⟩)
  | ((with_reducible refine y_some ?_); refine ⟨_, rfl, ?_⟩)
  | ((with_reducible refine y_gP ?_); refine ⟨_, rfl, ?_⟩))
local macro_rules | `(tactic| walk_at "x") => `(tactic| repeat (first | walk_at "x1" | walk_at "x2" ))
local macro_rules | `(tactic| walk_at "nx") => `(tactic| (refine next_k (by assumption) (by assumption) (by first | decide | omega) (by first | decide | omega) ?_))
theorem in28 {x : Str} {ys : List Str} {h : Hap} : inO (.str x) (.lst (ys.map .str)) h = some (decide (x ∈ ys)) := by
  have e1 : ∀ ys : List Str, fls (ys.map D.str) = some (ys.map V.str) := fun ys => by
    induction ys with
    | nil => rfl
    | cons y ys ih => rw [List.map_cons, fls, ih]; rfl
  show ((match (D.str x).fl, (getQ (.lst (ys.map D.str)) h).bind fls with
    | some x, some xs => some (inV x xs)
    | _, _ => none : Option Bool)) = _
  have e2 : (getQ (.lst (ys.map D.str)) h).bind fls = some (ys.map V.str) := e1 ys
  rw [e2]
  show some (inV (.str x) (ys.map V.str)) = _
  congr 1
  unfold inV
  rw [List.any_map, Bool.eq_iff_iff, List.any_eq_true, decide_eq_true_iff]
  constructor
  · rintro ⟨y, my, e⟩
    have e : eqV (.str y) (.str x) = true := e
    have : y = x := by simpa [eqV] using e
    rw [← this]
    exact my
  · intro m
    exact ⟨x, m, by show eqV (.str x) (.str x) = true; simp [eqV]⟩
theorem bls28 : ∀ bs : List Bool, blsOf (bs.map D.bl) = some bs
  | [] => rfl
  | b :: bs => by rw [List.map_cons, blsOf, bls28 bs]; rfl
section
variable {h : Hap} {P : D → Hap → Prop} {G : List R5} {l : Str} {S : List Str}
def Kp (h h' : Hap) : Prop := ∀ n, n < h.length → h'[n]? = h[n]?
theorem kp_app {h g : Hap} : Kp h (h ++ g) := fun _ l => List.getElem?_append_left l
theorem Kp.trans {a b c : Hap} (h : Kp a b) (g : Kp b c) (l : a.length ≤ b.length) : Kp a c := fun n m => (g n (by omega)).trans (h n m)
theorem get_row {r : R5} (n : (G.map (·.1)).Nodup) (m : r ∈ G) : getG G r.1 = some r := by
  unfold getG
  induction G with
  | nil => simp at m
  | cons q G ih =>
    rw [List.map_cons, List.nodup_cons] at n
    rw [List.find?_cons]
    rcases List.mem_cons.mp m with e | m
    · rw [decide_eq_true (show q.1 = r.1 by rw [e]), ← e]
    · rw [decide_eq_false (fun z => n.1 (by rw [z]; exact List.mem_map.mpr ⟨r, m, rfl⟩))]
      exact ih n.2 m
end
end Vi

set_option Elab.async false
set_option linter.all false
set_option autoImplicit false
set_option maxRecDepth 100000
set_option maxHeartbeats 2000000
namespace Vi
open PySem PySem.Spec PyProof.Rows L2
open scoped Classical
local macro_rules | `(tactic| walk_at "x1") => `(tactic| with_reducible first
  | refine x_bin ?_ | refine x_tst ?_ | refine x_oB ?_ | refine x_c ?_ | refine s_seqA ?_ | refine s_seqU ?_ | refine s_seqE ?_ | refine s_seqN ?_ | refine s_seqD ?_ | refine s_seqF ?_ | refine s_seqL ?_ | refine s_asg' ?_ | refine s_if' ?_ | refine s_ret' ?_ | refine s_exp' ?_ | refine s_next ?_ | refine s_retN' ?_ | refine s_sub' ?_ | refine s_dsub' ?_ | refine s_setF' ?_ | refine s_ddel' ?_
  | refine x_cb ?_ | refine x_cons ?_ | refine x_nil ?_ | refine x_call ?_ | refine x_met ?_ | refine x_meth ?_ | refine x_make ?_ | refine x_fld ?_ | refine x_un ?_ | refine x_notT ?_ | refine x_andT ?_ | refine x_orT ?_ | refine x_and ?_ | refine x_or ?_ | refine x_not ?_ | refine x_if ?_
  | refine x_tup ?_ | refine x_lst ?_ | refine x_cel ?_ | refine x_dnew ?_ | refine x_sortIt ?_ | refine x_sl ?_ | refine x_noP ?_ | refine x_part ?_ | refine x_oI ?_ | refine x_mI ?_ | refine x_rng ?_ | refine x_yes ?_ | refine x_chn ?_ | refine x_fun ?_ | refine x_ok ?_)
local macro_rules | `(tactic| walk_at "x2") => `(tactic| first
  | ((with_reducible refine y_var ?_); refine ⟨_, rfl, ?_⟩)
  | ((with_reducible refine y_some ?_); refine ⟨_, rfl, ?_⟩)
  | ((with_reducible refine y_gP ?_); refine ⟨_, rfl, ?_⟩))
local macro_rules | `(tactic| walk_at "x") => `(tactic| repeat (first | walk_at "x1" | walk_at "x2" ))
local macro_rules | `(tactic| walk_at "nx") => `(tactic| (refine next_k (by assumption) (by assumption) (by first | decide | omega) (by first | decide | omega) ?_))
theorem not_f {b : Bool} (h : (!b) = false) : b = true := by cases b <;> simp_all
theorem not_t {b : Bool} (h : (!b) = true) : b = false := by cases b <;> simp_all
theorem rng28 {n : Nat} {pre post : List D} {x : D} (e : rngL 0 n = pre ++ x :: post) : x = .int (pre.length : Int) ∧ pre.length < n := by
  have hq := congrArg List.length e
  simp only [rngL, List.length_map, List.length_range, List.length_append, List.length_cons] at hq
  have h2 : (rngL 0 n)[pre.length]? = some x := by rw [e]; simp
  have hl : pre.length < n := by omega
  simp [rngL, hl] at h2
  exact ⟨h2.symm, hl⟩
theorem dix28 {h : Hap} {i : Nat} {xs : List D} {n : Nat} {d : D} (g : h[i]? = some (.lst xs)) (e : xs[n]? = some d) : dIx (.ref i) (.int (n : Nat)) h = some d := by
  have il : n < xs.length := (List.getElem?_eq_some_iff.mp e).1
  have a : atI xs (n : Int) = some d := by
    unfold atI ixN
    rw [if_pos (by omega), if_pos (by omega)]
    simpa using e
  unfold dIx
  simp only []
  rw [gq28 g]
  exact a
section
variable {h : Hap} {P : D → Hap → Prop} {G : List R5} {l : Str} {S : List Str}
theorem law_needs_k (g : Gk G) (k : P (.lst ((nbs (NG G) l).map .str)) h) : Sat (Mi.m_law_needs [.tup (G.map rwG), .str l] h) P := by
  unfold Mi.m_law_needs Mi.b_law_needs
  refine x_fun (s_seq (s_forI (fun pre post e h' => h' = h ∧ (∃ a b, e = [some (.tup (G.map rwG)), some (.str l), a, b]) ∧ ∃ as bs, G = as ++ bs ∧ pre = as.map rwG ∧ ∀ r ∈ as, r.1 ≠ l) ?_))
  refine x_mI (x_var rfl ⟨G.map rwG, rfl, ⟨rfl, ⟨_, _, rfl⟩, [], G, rfl, rfl, by simp⟩, fun _ _ _ _ _ _ => rfl, ?_, ?_⟩)
  · rintro pre y post e' h' hx ⟨rfl, ⟨a, b, rfl⟩, as, bs, e1, rfl, no⟩
    have hx : G.map rwG = _ := hx
    rw [e1, List.map_append] at hx
    have hx := List.append_cancel_left hx
    obtain ⟨r, bs', rfl, rfl⟩ : ∃ r bs', bs = r :: bs' ∧ y = rwG r := by
      cases bs with
      | nil => simp at hx
      | cons r bs' => exact ⟨r, bs', rfl, (List.cons.inj hx).1.symm⟩
    have mr : r ∈ G := by rw [e1]; simp
    refine ⟨_, rfl, ?_⟩
    refine s_if' (x_tst (x_bin (x_bin (x_var rfl (x_c (x_some (d := .str r.1) rfl (x_var rfl (x_some (d := .bl (decide (r.1 = l))) rfl (x_oB ⟨fun z => ?_, fun z => ?_⟩)))))))))
    · have z : r.1 = l := of_decide_eq_true z
      have e : nbs (NG G) l = r.2.2.2.2 := by
        rw [← z]
        exact nbs_row (r := (r.1, r.2.2.2.2)) g.nd (List.mem_map.mpr ⟨r, mr, rfl⟩)
      rw [e] at k
      refine s_ret' (x_compFM (inD r) (pKd "target") pNm (sl_le (by have := g.ins r mr; omega)) (x_items (dd := .tup (inD r)) rfl (x_bin (x_var rfl (x_c (x_some (d := .tup (inD r)) rfl ⟨rfl, rfl⟩))))) (fun d m => ?_) ?_)
      · have : ∃ a b, d = .tup [.str a, .str b] := by
          unfold inD at m
          rcases List.mem_append.mp m with m | m
          · obtain ⟨q, _, rfl⟩ := List.mem_map.mp m; exact ⟨_, _, rfl⟩
          · obtain ⟨q, _, rfl⟩ := List.mem_map.mp m; exact ⟨_, _, rfl⟩
        obtain ⟨a, b, rfl⟩ := this
        exact ⟨_, rfl, x_tst (x_bin (x_bin (x_var rfl (x_c (x_some (d := .str a) rfl (x_c (x_some (d := .bl (decide (a = "target"))) rfl (x_oB ⟨rfl, rfl, fun _ => x_bin (x_var rfl (x_c (x_some (d := .str b) rfl ⟨rfl, rfl⟩)))⟩))))))))⟩
      · rw [in_t]
        exact k
    · have z : ¬ r.1 = l := of_decide_eq_false z
      exact s_next ⟨rfl, ⟨_, _, rfl⟩, as ++ [r], bs', by rw [e1]; simp, by rw [List.map_append]; rfl, fun q mq => (List.mem_append.mp mq).elim (no q) fun w => by rw [List.mem_singleton.mp w]; exact z⟩
  · rintro e' h' ⟨rfl, ⟨a, b, rfl⟩, as, bs, e1, e2, no⟩
    have e2 : G.map rwG = as.map rwG := e2
    have : bs = [] := by
      have a := congrArg List.length e2
      have b := congrArg List.length e1
      rw [List.length_map, List.length_map] at a
      rw [List.length_append] at b
      exact List.eq_nil_of_length_eq_zero (by omega)
    subst this
    rw [List.append_nil] at e1
    have nk : l ∉ ks28 (NG G) := by
      rw [g.ks, e1]
      intro m
      obtain ⟨r, mr, e⟩ := List.mem_map.mp m
      exact no r mr e
    have e : nbs (NG G) l = [] := nbs_none nk
    rw [e] at k
    dsimp only
    exact s_ret' (x_lst (x_nil ⟨sl_le (show 0 ≤ 16777216 by decide), k⟩))
theorem ge1 (h : Hap) (c : Cel) : (h ++ [c])[h.length]? = some c := by rw [List.getElem?_append_right (Nat.le_refl _), Nat.sub_self]; rfl
theorem se1 (h : Hap) (c c' : Cel) : (h ++ [c]).set h.length c' = h ++ [c'] := by rw [List.set_append_right _ _ (Nat.le_refl _), Nat.sub_self]; rfl
theorem in28r {x : Str} {ys : List Str} {i : Nat} {h : Hap} (e : h[i]? = some (.lst (ys.map .str))) : inO (.str x) (.ref i) h = some (decide (x ∈ ys)) := by
  have a := in28 (x := x) (ys := ys) (h := h)
  have e1 : getQ (.ref i) h = getQ (.lst (ys.map D.str)) h := gq28 e
  have e2 : ∀ d, inO (.str x) d h = inO (.str x) d h := fun _ => rfl
  show ((match (D.str x).fl, (getQ (.ref i) h).bind fls with
    | some x, some xs => some (inV x xs)
    | _, _ => none : Option Bool)) = _
  rw [e1]
  exact a
theorem lenG28 {env : Env} {P : List D × (Hap → Prop) → Hap → Prop} (e0 : env[0]? = some (some (.tup (G.map rwG)))) (hl : G.length ≤ 1000) (p : P (rngL 0 G.length, fun _ => True) h) : Sat (mRng rng1 (mCons (mCB dLen (mCons (mVar 0) mNil)) mNil) env h) P := by
  have e : Sat (mCB dLen (mCons (mVar 0) mNil) env h) fun d h1 => d = .int (G.length : Int) ∧ h1 = h := by
    refine x_cb (x_cons (x_var e0 (x_nil (v_lenQ (xs := G.map rwG) rfl (fun z => by simp) ?_))))
    rw [List.length_map]
    exact ⟨rfl, rfl⟩
  with_reducible refine x_rng ?_
  with_reducible refine x_cons ?_
  refine e.mono fun d h1 z => ?_
  obtain ⟨rfl, rfl⟩ := z
  with_reducible refine x_nil ?_
  with_reducible refine x_rng1 (by omega) ?_
  rw [Int.toNat_natCast]
  exact p
noncomputable def tr28 : MS := (mSeq (mFor (mRng rng1 (mCons (mCB dLen (mCons (mVar 0) mNil)) mNil)) (gNm 5) (mIfS (mTst (mBin dLt (mVar 5) (mCB dLen (mCons (mVar 3) mNil)))) (mFor (mI (mCall Mi.m_law_needs (mCons (mVar 0) (mCons (mBin dIx (mVar 3) (mVar 5)) mNil)))) (gNm 6) (mIfS (mTst (mBin dNotIn (mVar 6) (mVar 3))) (mExp (mMet "list" gAppend (mVar 3) (mCons (mVar 6) mNil))) mNext)) mNext))
    (mRet (mVar 3)))
theorem reach2_k {K F : List Str} {x4 : Option D} {Q : Ps} {env : Env} (he : env = [some (.tup (G.map rwG)), some (.lst (S.map .str)), some (.lst (K.map .str)), some (.ref h.length), x4, none, none, none]) (g : Gk G) (hK : G.map (·.1) = K) (nF : F.Nodup) (mF2 : ∀ x, x ∈ F → Rc (nbs (NG G)) (S.filter fun s => decide (s ∈ K)) x ∧ x ∈ K) (mF3 : ∀ s ∈ S.filter (fun s => decide (s ∈ K)), s ∈ F)
    (k : ∀ F : List Str, F.Nodup → (∀ x, x ∈ F ↔ Rc (nbs (NG G)) (S.filter fun s => decide (s ∈ K)) x) → Q.r (.ref h.length) (h ++ [.lst (F.map .str)])) :
    SatS (tr28 env (h ++ [.lst (F.map .str)])) Q := by
  unfold tr28
  have gl := g.hl
  have kN : ∀ {x y}, y ∈ nbs (NG G) x → y ∈ K := fun {x y} m => by
    obtain ⟨r, mr, e⟩ := List.mem_map.mp (nbs_key m)
    rw [← e, nbs_row g.nd mr] at m
    rw [← hK, ← g.ks]
    exact g.cls r mr y m
  have kl : K.length = G.length := by rw [← hK, List.length_map]
  refine s_seq (s_forI (fun pre post e h' => ∃ (x5 x6 : Option D) (F : List Str), e = [some (.tup (G.map rwG)), some (.lst (S.map .str)), some (.lst (K.map .str)), some (.ref h.length), x4, x5, x6, none] ∧ h' = h ++ [.lst (F.map .str)] ∧ F.Nodup ∧ (∀ x, x ∈ F → Rc (nbs (NG G)) (S.filter fun s => decide (s ∈ K)) x ∧ x ∈ K) ∧ (∀ s ∈ S.filter (fun s => decide (s ∈ K)), s ∈ F) ∧ ∀ (i : Nat) x, i < pre.length → F[i]? = some x → ∀ y ∈ nbs (NG G) x, y ∈ F) ?_)
  with_reducible refine lenG28 (G := G) ?e0 ?hl ?_
  case e0 => rw [he]; rfl
  case hl => omega
  refine ⟨⟨_, _, F, he, rfl, nF, mF2, mF3, fun i x hi => absurd hi (Nat.not_lt_zero _)⟩, fun _ _ _ _ _ _ => trivial, ?_, ?_⟩
  · rintro pre y post e' h' hx ⟨x5, x6, F, rfl, rfl, nF, m2, m3, m4⟩
    obtain ⟨rfl, hk⟩ := rng28 hx
    have hk : pre.length < G.length := hk
    have lF : F.length ≤ K.length := nodup_sub_len nF fun x m => (m2 x m).2
    refine ⟨_, rfl, ?_⟩
    refine s_if' (x_tst (x_bin (x_var rfl (x_cb (x_cons (x_var rfl (x_nil (v_lenQ (gq28 (ge1 _ _)) (fun z => by simp) ?_))))))))
    rw [List.length_map]
    refine x_some (d := .bl (decide ((pre.length : Int) < (F.length : Int)))) rfl (x_oB ⟨fun c => ?_, fun c => s_next ?_⟩)
    · have c : (pre.length : Int) < (F.length : Int) := of_decide_eq_true c
      have c : pre.length < F.length := by omega
      have ex : F[pre.length]? = some F[pre.length] := List.getElem?_eq_getElem c
      generalize F[pre.length] = x at ex
      have mx := List.mem_of_getElem? ex
      refine s_forI (fun pre2 post e h' => ∃ (cs ds : List Str) (x6 : Option D) (F' : List Str), nbs (NG G) x = cs ++ ds ∧ pre2 = cs.map D.str ∧ e = [some (.tup (G.map rwG)), some (.lst (S.map .str)), some (.lst (K.map .str)), some (.ref h.length), x4, some (.int (pre.length : Int)), x6, none] ∧ h' = h ++ [.lst ((F ++ F').map .str)] ∧ (F ++ F').Nodup ∧ (∀ x, x ∈ F ++ F' → Rc (nbs (NG G)) (S.filter fun s => decide (s ∈ K)) x ∧ x ∈ K) ∧ ∀ y ∈ cs, y ∈ F ++ F') ?_
      refine x_mI (x_call (x_cons (x_var rfl (x_cons (x_bin (x_var rfl (x_var rfl (x_some (d := .str x) ?_ (x_nil (law_needs_k g ⟨(nbs (NG G) x).map .str, rfl, ⟨[], nbs (NG G) x, _, [], rfl, rfl, rfl, by rw [List.append_nil], by rw [List.append_nil]; exact nF, by rw [List.append_nil]; exact m2, fun y m => nomatch m⟩, fun _ _ _ _ _ _ => rfl, ?_, ?_⟩))))))))))
      · show dIx (.ref h.length) (.int (pre.length : Int)) _ = _
        have := dix28 (h := h ++ [.lst (F.map .str)]) (ge1 _ _) (n := pre.length) (d := .str x) (by rw [List.getElem?_map, ex]; rfl)
        exact this
      · rintro pre2 y post2 e' h' hx ⟨cs, ds, x6, F', e1, rfl, rfl, rfl, n2, r2, c2⟩
        have hx : (nbs (NG G) x).map D.str = _ := hx
        rw [e1, List.map_append] at hx
        have hx := List.append_cancel_left hx
        obtain ⟨s, ds', rfl, rfl⟩ : ∃ s ds', ds = s :: ds' ∧ y = .str s := by
          cases ds with
          | nil => simp at hx
          | cons s ds' => exact ⟨s, ds', rfl, (List.cons.inj hx).1.symm⟩
        have ms : s ∈ nbs (NG G) x := by rw [e1]; simp
        have lF2 : (F ++ F').length ≤ K.length := nodup_sub_len n2 fun x m => (r2 x m).2
        refine ⟨_, rfl, ?_⟩
        refine s_if' (x_tst (x_bin (x_var rfl (x_var rfl (x_some (d := .bl (!decide (s ∈ F ++ F'))) (by unfold dNotIn; rw [in28r (ge1 _ _)]; rfl) (x_oB ⟨fun c2' => ?_, fun c2' => s_next ?_⟩))))))
        · have c3 : s ∉ F ++ F' := of_decide_eq_false (not_t c2')
          refine s_exp' (x_met (x_var rfl ⟨isl28 (ge1 _ _), x_cons (x_var rfl (x_nil (v28_app (ge1 _ _) (by rw [List.length_map]; omega) ?_)))⟩))
          rw [se1]
          refine ⟨cs ++ [s], ds', _, F' ++ [s], by rw [e1]; simp, by rw [List.map_append]; rfl, rfl, by rw [← List.append_assoc, List.map_append (l₂ := [s])]; rfl, ?_, fun x m => ?_, fun y m => ?_⟩
          · rw [← List.append_assoc, List.nodup_append]
            exact ⟨n2, by simp, fun a ma b mb e => c3 (by rw [← List.mem_singleton.mp mb, ← e]; exact ma)⟩
          · rw [← List.append_assoc] at m
            rcases List.mem_append.mp m with m | m
            · exact r2 x m
            · rw [List.mem_singleton.mp m]
              exact ⟨.step (m2 _ mx).1 ms, kN ms⟩
          · rw [← List.append_assoc]
            rcases List.mem_append.mp m with m | m
            · exact List.mem_append_left _ (c2 y m)
            · exact List.mem_append_right _ m
        · have c3 : s ∈ F ++ F' := of_decide_eq_true (not_f c2')
          exact ⟨cs ++ [s], ds', _, F', by rw [e1]; simp, by rw [List.map_append]; rfl, rfl, rfl, n2, r2, fun y m => (List.mem_append.mp m).elim (c2 y) fun w => by rw [List.mem_singleton.mp w]; exact c3⟩
      · rintro e' h' ⟨cs, ds, x6, F', e1, e2, rfl, rfl, n2, r2, c2⟩
        have e2 : (nbs (NG G) x).map D.str = cs.map D.str := e2
        have e3 := (List.map_inj_right fun p q w => D.str.inj w).mp e2
        refine ⟨_, _, F ++ F', rfl, rfl, n2, r2, fun s m => List.mem_append_left _ (m3 s m), fun i z hi ez y my => ?_⟩
        rw [List.length_append, List.length_singleton] at hi
        by_cases ip : i = pre.length
        · subst ip
          rw [List.getElem?_append_left c, ex] at ez
          cases ez
          exact c2 y (by rw [← e3]; exact my)
        · rw [List.getElem?_append_left (by omega)] at ez
          exact List.mem_append_left _ (m4 i z (by omega) ez y my)
    · have c : ¬ (pre.length : Int) < (F.length : Int) := of_decide_eq_false c
      refine ⟨_, _, F, rfl, rfl, nF, m2, m3, fun i z hi ez => ?_⟩
      have := (List.getElem?_eq_some_iff.mp ez).1
      exact m4 i z (by omega) ez
  · rintro e' h' ⟨x5, x6, F, rfl, rfl, nF, m2, m3, m4⟩
    have lF : F.length ≤ K.length := nodup_sub_len nF fun x m => (m2 x m).2
    have lg : (rngL 0 G.length).length = G.length := by simp [rngL]
    dsimp only
    refine s_ret' (x_var rfl (k F nF fun x => ⟨fun m => (m2 x m).1, fun r => rc_closed m3 (fun a ma b mb => ?_) r⟩))
    obtain ⟨i, ei⟩ := List.mem_iff_getElem?.mp ma
    have := (List.getElem?_eq_some_iff.mp ei).1
    exact m4 i a (by show i < (rngL 0 G.length).length; omega) ei b mb
theorem law_reach_k (g : Gk G) (hs : S.length ≤ 1000) (k : ∀ F : List Str, F.Nodup → (∀ x, x ∈ F ↔ Rc (nbs (NG G)) (S.filter fun s => decide (s ∈ G.map (·.1))) x) → P (.ref h.length) (h ++ [.lst (F.map .str)])) : Sat (Mi.m_law_reach [.tup (G.map rwG), .lst (S.map .str)] h) P := by
  unfold Mi.m_law_reach Mi.b_law_reach
  have gl := g.hl
  have nm : (G.map rwG).map hd5 = (G.map (·.1)).map D.str := by rw [List.map_map, List.map_map]; rfl
  refine x_fun (s_seq (s_asg' (x_compM (G.map rwG) hd5 (by rw [List.length_map]; exact sl_le (by omega)) (x_items (dd := .tup (G.map rwG)) rfl (x_var rfl ⟨rfl, rfl⟩)) (fun d md => ?_) ?_)))
  · obtain ⟨r, mr, rfl⟩ := List.mem_map.mp md
    exact ⟨_, rfl, x_bin (x_var rfl (x_c (x_some (d := .str r.1) rfl ⟨rfl, rfl⟩)))⟩
  rw [nm]
  generalize hK : G.map (·.1) = K at *
  have kn : K.Nodup := by rw [← hK]; exact g.n
  have kN : ∀ {x y}, y ∈ nbs (NG G) x → y ∈ K := fun {x y} m => by
    obtain ⟨r, mr, e⟩ := List.mem_map.mp (nbs_key m)
    rw [← e, nbs_row g.nd mr] at m
    rw [← hK, ← g.ks]
    exact g.cls r mr y m
  have kl : K.length = G.length := by rw [← hK, List.length_map]
  dsimp only
  refine s_seq (s_asg' (x_cel (x_nil ⟨sl_le (show 0 ≤ 16777216 by decide), ?_⟩)))
  dsimp only
  refine s_seq (s_forI (fun pre post e h' => ∃ (as bs : List Str) (x4 : Option D) (F : List Str), S = as ++ bs ∧ pre = as.map D.str ∧ e = [some (.tup (G.map rwG)), some (.lst (S.map .str)), some (.lst (K.map .str)), some (.ref h.length), x4, none, none, none] ∧ h' = h ++ [.lst (F.map .str)] ∧ F.Nodup ∧ ∀ x, x ∈ F ↔ x ∈ as.filter fun s => decide (s ∈ K)) ?_)
  refine x_mI (x_var rfl ⟨S.map .str, rfl, ⟨[], S, _, [], rfl, rfl, rfl, rfl, List.nodup_nil, fun x => by simp⟩, fun _ _ _ _ _ _ => rfl, ?_, ?_⟩)
  · rintro pre y post e' h' hx ⟨as, bs, x4, F, e1, rfl, rfl, rfl, nF, mF⟩
    have hx : S.map D.str = _ := hx
    rw [e1, List.map_append] at hx
    have hx := List.append_cancel_left hx
    obtain ⟨s, bs', rfl, rfl⟩ : ∃ s bs', bs = s :: bs' ∧ y = .str s := by
      cases bs with
      | nil => simp at hx
      | cons s bs' => exact ⟨s, bs', rfl, (List.cons.inj hx).1.symm⟩
    have lF : F.length ≤ K.length := nodup_sub_len nF fun x m => by
      have := (List.mem_filter.mp ((mF x).mp m)).2
      exact of_decide_eq_true this
    refine ⟨_, rfl, ?_⟩
    have same : ∀ x4, (s ∉ K ∨ s ∈ F) → ∃ (as' bs : List Str) (x4' : Option D) (F' : List Str), S = as' ++ bs ∧ as.map D.str ++ [.str s] = as'.map D.str ∧ ([some (.tup (G.map rwG)), some (.lst (S.map .str)), some (.lst (K.map .str)), some (.ref h.length), x4, none, none, none] : Env) = [some (.tup (G.map rwG)), some (.lst (S.map .str)), some (.lst (K.map .str)), some (.ref h.length), x4', none, none, none] ∧ h ++ [Cel.lst (F.map .str)] = h ++ [.lst ((F' : List Str).map .str)] ∧ F'.Nodup ∧ ∀ x, x ∈ F' ↔ x ∈ as'.filter fun s => decide (s ∈ K) := fun x4 c => by
      refine ⟨as ++ [s], bs', _, F, by rw [e1]; simp, by rw [List.map_append]; rfl, rfl, rfl, nF, fun x => ?_⟩
      rw [mF x, List.filter_append, List.mem_append]
      refine ⟨.inl, fun z => z.elim id fun z => ?_⟩
      obtain ⟨z1, z2⟩ := List.mem_filter.mp z
      rw [List.mem_singleton.mp z1] at z2 ⊢
      rcases c with c | c
      · exact absurd (of_decide_eq_true z2) c
      · exact (mF s).mp c
    refine s_if' (x_andT (x_tst (x_bin (x_var rfl (x_var rfl (x_some (d := .bl (decide (s ∈ K))) (by unfold dIn; rw [in28]; rfl) (x_oB ⟨fun c1 => ?_, fun c1 => ⟨fun z => (nomatch z), fun _ => s_next (same _ (.inl (of_decide_eq_false c1)))⟩⟩)))))))
    refine x_tst (x_bin (x_var rfl (x_var rfl (x_some (d := .bl (!decide (s ∈ F))) (by unfold dNotIn; rw [in28r (ge1 _ _)]; rfl) (x_oB ⟨fun c2 => ?_, fun c2 => s_next (same _ (.inr (by simpa using c2)))⟩)))))
    have c1 : s ∈ K := of_decide_eq_true c1
    have c2 : s ∉ F := by simpa using c2
    refine s_exp' (x_met (x_var rfl ⟨isl28 (ge1 _ _), x_cons (x_var rfl (x_nil (v28_app (ge1 _ _) (by rw [List.length_map]; omega) ?_)))⟩))
    rw [se1]
    refine ⟨as ++ [s], bs', _, F ++ [s], by rw [e1]; simp, by rw [List.map_append]; rfl, rfl, by rw [List.map_append]; rfl, ?_, fun x => ?_⟩
    · rw [List.nodup_append]
      exact ⟨nF, by simp, fun a ma b mb e => c2 (by rw [← List.mem_singleton.mp mb, ← e]; exact ma)⟩
    · rw [List.filter_append, List.mem_append, List.mem_append, mF x, List.filter_cons, if_pos (decide_eq_true c1), List.filter_nil]
  · intro e' h' hI
    obtain ⟨as, bs, x4, F, e1, e2, ee, eh, nF, mF⟩ := hI
    rw [eh]
    have e2 : S.map D.str = as.map D.str := e2
    have es : as = S := ((List.map_inj_right fun p q w => D.str.inj w).mp e2).symm
    rw [es] at mF
    exact reach2_k ee g hK nF (fun x m => ⟨.base ((mF x).mp m), of_decide_eq_true (List.mem_filter.mp ((mF x).mp m)).2⟩) (fun s m => (mF s).mpr m) k
end
end Vi

set_option Elab.async false
set_option linter.all false
set_option autoImplicit false
set_option maxRecDepth 100000
set_option maxHeartbeats 2000000
namespace Vi
open PySem PySem.Spec PyProof.Rows L2
open scoped Classical
local macro_rules | `(tactic| walk_at "x1") => `(tactic| with_reducible first
  | refine x_bin ?_ | refine x_tst ?_ | refine x_oB ?_ | refine x_c ?_ | refine s_seqA ?_ | refine s_seqU ?_ | refine s_seqE ?_ | refine s_seqN ?_ | refine s_seqD ?_ | refine s_seqF ?_ | refine s_seqL ?_ | refine s_asg' ?_ | refine s_if' ?_ | refine s_ret' ?_ | refine s_exp' ?_ | refine s_next ?_ | refine s_retN' ?_ | refine s_sub' ?_ | refine s_dsub' ?_ | refine s_setF' ?_ | refine s_ddel' ?_
  | refine x_cb ?_ | refine x_cons ?_ | refine x_nil ?_ | refine x_call ?_ | refine x_met ?_ | refine x_meth ?_ | refine x_make ?_ | refine x_fld ?_ | refine x_un ?_ | refine x_notT ?_ | refine x_andT ?_ | refine x_orT ?_ | refine x_and ?_ | refine x_or ?_ | refine x_not ?_ | refine x_if ?_
  | refine x_tup ?_ | refine x_lst ?_ | refine x_cel ?_ | refine x_dnew ?_ | refine x_sortIt ?_ | refine x_sl ?_ | refine x_noP ?_ | refine x_part ?_ | refine x_oI ?_ | refine x_mI ?_ | refine x_rng ?_ | refine x_yes ?_ | refine x_chn ?_ | refine x_fun ?_ | refine x_ok ?_)
local macro_rules | `(tactic| walk_at "x2") => `(tactic| first
  | ((with_reducible refine y_var ?_); refine ⟨_, rfl, ?_⟩)
  | ((with_reducible refine y_some ?_); refine ⟨_, rfl, ?_⟩)
  | ((with_reducible refine y_gP ?_); refine ⟨_, rfl, ?_⟩))
local macro_rules | `(tactic| walk_at "x") => `(tactic| repeat (first | walk_at "x1" | walk_at "x2" ))
local macro_rules | `(tactic| walk_at "nx") => `(tactic| (refine next_k (by assumption) (by assumption) (by first | decide | omega) (by first | decide | omega) ?_))
section
variable {h : Hap} {P : D → Hap → Prop} {G : List R5} {l : Str} {S : List Str}
end
end Vi

set_option Elab.async false
set_option linter.all false
set_option autoImplicit false
set_option maxRecDepth 100000
set_option maxHeartbeats 1000000
namespace Vi
open PySem PySem.Spec PyProof.Rows L2
open scoped Classical
local macro_rules | `(tactic| walk_at "x1") => `(tactic| with_reducible first
  | refine x_bin ?_ | refine x_tst ?_ | refine x_oB ?_ | refine x_c ?_ | refine s_seqA ?_ | refine s_seqU ?_ | refine s_seqE ?_ | refine s_seqN ?_ | refine s_asg' ?_ | refine s_if' ?_ | refine s_ret' ?_ | refine s_exp' ?_ | refine s_next ?_ | refine s_retN' ?_ | refine s_sub' ?_
  | refine x_cb ?_ | refine x_cons ?_ | refine x_nil ?_ | refine x_call ?_ | refine x_met ?_ | refine x_un ?_ | refine x_notT ?_ | refine x_andT ?_ | refine x_orT ?_ | refine x_and ?_ | refine x_or ?_ | refine x_not ?_ | refine x_if ?_
  | refine x_tup ?_ | refine x_lst ?_ | refine x_cel ?_ | refine x_sl ?_ | refine x_noP ?_ | refine x_part ?_ | refine x_oI ?_ | refine x_mI ?_ | refine x_rng ?_ | refine x_yes ?_ | refine x_fun ?_ | refine x_ok ?_)
local macro_rules | `(tactic| walk_at "x2") => `(tactic| first
  | ((with_reducible refine y_var ?_); refine ⟨_, rfl, ?_⟩)
  | ((with_reducible refine y_some ?_); refine ⟨_, rfl, ?_⟩)
  | ((with_reducible refine y_gP ?_); refine ⟨_, rfl, ?_⟩))
local macro_rules | `(tactic| walk_at "x") => `(tactic| repeat (first | walk_at "x1" | walk_at "x2" ))
local macro_rules | `(tactic| walk_at "nx") => `(tactic| (refine next_k (by assumption) (by assumption) (by first | decide | omega) (by first | decide | omega) ?_))
/-! ### segments and paths: what both answer -/
section
variable {h : Hap} {P : D → Hap → Prop}
theorem at0 {z : Str} (h1 : 1 ≤ z.length) : atI z.cps.toList 0 = some (z.cps[0]!) := by
  obtain ⟨cs⟩ := z
  have h1 : 1 ≤ cs.size := h1
  unfold atI ixN
  rw [if_pos (Int.le_refl 0), if_pos (by rw [Array.length_toList]; show (0 : Int) < cs.size; omega)]
  show cs.toList[0]? = _
  rw [Array.getElem?_toList]
  simp [show 0 < cs.size by omega]
section
variable {t : Hap} {ns : List Int}
end
end
end Vi

set_option Elab.async false
set_option linter.all false
set_option autoImplicit false
set_option maxRecDepth 100000
set_option maxHeartbeats 1000000
namespace Vi
open PySem PySem.Spec PyProof.Rows L2
open scoped Classical
local macro_rules | `(tactic| walk_at "x1") => `(tactic| with_reducible first
  | refine x_bin ?_ | refine x_tst ?_ | refine x_oB ?_ | refine x_c ?_ | refine s_seqA ?_ | refine s_seqU ?_ | refine s_seqE ?_ | refine s_seqN ?_ | refine s_asg' ?_ | refine s_if' ?_ | refine s_ret' ?_ | refine s_exp' ?_ | refine s_next ?_ | refine s_retN' ?_ | refine s_sub' ?_
  | refine x_cb ?_ | refine x_cons ?_ | refine x_nil ?_ | refine x_call ?_ | refine x_met ?_ | refine x_un ?_ | refine x_notT ?_ | refine x_andT ?_ | refine x_orT ?_ | refine x_and ?_ | refine x_or ?_ | refine x_not ?_ | refine x_if ?_
  | refine x_tup ?_ | refine x_lst ?_ | refine x_cel ?_ | refine x_sl ?_ | refine x_noP ?_ | refine x_part ?_ | refine x_oI ?_ | refine x_mI ?_ | refine x_rng ?_ | refine x_yes ?_ | refine x_fun ?_ | refine x_ok ?_)
local macro_rules | `(tactic| walk_at "x2") => `(tactic| first
  | ((with_reducible refine y_var ?_); refine ⟨_, rfl, ?_⟩)
  | ((with_reducible refine y_some ?_); refine ⟨_, rfl, ?_⟩)
  | ((with_reducible refine y_gP ?_); refine ⟨_, rfl, ?_⟩))
local macro_rules | `(tactic| walk_at "x3") => `(tactic| first
  | ((with_reducible refine v_mod ?_ ?_); (first | decide | omega))
  | ((with_reducible refine v_pow ?_ ?_); exact ⟨by decide, by decide, by decide⟩))
local macro_rules | `(tactic| walk_at "x") => `(tactic| repeat (first | walk_at "x1" | walk_at "x2" | walk_at "x3" ))
local macro_rules | `(tactic| walk_at "nx") => `(tactic| (refine next_k (by assumption) (by assumption) (by first | decide | omega) (by first | decide | omega) ?_))
/-! ### .. and their signs stand for characters -/
abbrev okS (z : Str) : Prop := PyData.strOk z = true
theorem okS_iff {z : Str} : okS z ↔ ∀ c ∈ z.cps.toList, c < 0x110000 := by
  unfold okS PyData.strOk
  rw [← Array.all_toList, List.all_eq_true]
  exact ⟨fun h c m => of_decide_eq_true (h c m), fun h c m => decide_eq_true (h c m)⟩
theorem okS_app {x y : Str} (hx : okS x) (hy : okS y) : okS (x ++ y) := by
  rw [okS_iff] at *
  intro c m
  have m : c ∈ TL.tl (x ++ y) := m
  rw [TL.tl_append] at m
  rcases List.mem_append.mp m with m | m
  · exact hx c m
  · exact hy c m
theorem okS_ch {z : Str} {c : Nat} (hz : okS z) (m : c ∈ z.cps.toList) : okS (ch c) := by
  rw [okS_iff] at *
  intro d e
  have e : d ∈ [c] := e
  rw [List.mem_singleton.mp e]
  exact hz c m
theorem okS_join {y : Str} (hy : okS y) : ∀ {ys : List Str}, (∀ z ∈ ys, okS z) → okS (Txt.join y ys) := by
  intro ys h
  show okS (Builtin.Str.glued y ys)
  rw [StrLaws.glued_eq_join]
  induction ys with
  | nil =>
    have e : Str.join y [] = ⟨#[]⟩ := rfl
    rw [e]
    decide +kernel
  | cons a ys ih =>
    cases ys with
    | nil => exact h a List.mem_cons_self
    | cons b ys => exact okS_app (okS_app (h a List.mem_cons_self) hy) (ih fun z m => h z (List.mem_cons_of_mem _ m))
section
variable {t h : Hap} {ns : List Int}
end
end Vi

set_option Elab.async false
set_option linter.all false
set_option autoImplicit false
set_option maxRecDepth 100000
set_option maxHeartbeats 2000000
namespace Vi
open PySem PySem.Spec PyProof.Rows L2
open scoped Classical
local macro_rules | `(tactic| walk_at "x1") => `(tactic| with_reducible first
  | refine x_bin ?_ | refine x_tst ?_ | refine x_oB ?_ | refine x_c ?_ | refine s_seqA ?_ | refine s_seqU ?_ | refine s_seqE ?_ | refine s_seqN ?_ | refine s_seqD ?_ | refine s_seqF ?_ | refine s_seqL ?_ | refine s_asg' ?_ | refine s_if' ?_ | refine s_ret' ?_ | refine s_exp' ?_ | refine s_next ?_ | refine s_retN' ?_ | refine s_sub' ?_ | refine s_dsub' ?_ | refine s_setF' ?_ | refine s_ddel' ?_
  | refine x_cb ?_ | refine x_cons ?_ | refine x_nil ?_ | refine x_call ?_ | refine x_met ?_ | refine x_meth ?_ | refine x_make ?_ | refine x_fld ?_ | refine x_un ?_ | refine x_notT ?_ | refine x_andT ?_ | refine x_orT ?_ | refine x_and ?_ | refine x_or ?_ | refine x_not ?_ | refine x_if ?_
  | refine x_tup ?_ | refine x_lst ?_ | refine x_cel ?_ | refine x_dnew ?_ | refine x_sortIt ?_ | refine x_sl ?_ | refine x_noP ?_ | refine x_part ?_ | refine x_oI ?_ | refine x_mI ?_ | refine x_rng ?_ | refine x_yes ?_ | refine x_chn ?_ | refine x_fun ?_ | refine x_ok ?_)
local macro_rules | `(tactic| walk_at "x2") => `(tactic| first
  | ((with_reducible refine y_var ?_); refine ⟨_, rfl, ?_⟩)
  | ((with_reducible refine y_some ?_); refine ⟨_, rfl, ?_⟩)
  | ((with_reducible refine y_gP ?_); refine ⟨_, rfl, ?_⟩))
local macro_rules | `(tactic| walk_at "x") => `(tactic| repeat (first | walk_at "x1" | walk_at "x2" ))
local macro_rules | `(tactic| walk_at "nx") => `(tactic| (refine next_k (by assumption) (by assumption) (by first | decide | omega) (by first | decide | omega) ?_))
section
variable {h t : Hap} {P : D → Hap → Prop} {ns : List Int}
abbrev CH27 : Str := " !\"#$&'()*+,-./0123456789:;<=>?@ABCDEFGHIJKLMNOPQRSTUVWXYZ[\\]^_`" ++ "abcdefghijklmnopqrstuvwxyz{|}~\n"
theorem ch27_ok : ∀ c ∈ CH27.cps.toList, c < 128 := by decide +kernel
theorem ochar_k {r : Int} (r0 : 0 ≤ r) (r1 : r < 95) (k : ∀ c, c < 128 → P (.str (ch c)) h) : Sat (Mi.m_law_char [.int r] h) P := by
  have hl : CH27.cps.toList.length = 95 := by decide +kernel
  obtain ⟨c, e1, m, e2⟩ := atI_ok (xs := CH27.cps.toList) (i := r) r0 (by omega)
  unfold Mi.m_law_char Mi.b_law_char
  walk_at "x"
  exact v_ixS (sl_le (by decide +kernel)) e1 (k c (ch27_ok c m))
theorem owords_k (hs : St t h) (hn : ns.length ≤ 63) (k : ∀ z h', okS z → z.length ≤ 24 → St t h' → P (.str z) h') : Sat (Mi.m_law_words [.ref 0, scr ns] h) P := by
  unfold Mi.m_law_words Mi.b_law_words
  walk_at "x"
  refine s_cut (fun e h => ∃ (z : Str) (x3 x4 : Option D), okS z ∧ z.length ≤ 24 ∧ e = [some (.ref 0), some (scr ns), some (.str z), x3, x4] ∧ St t h) ?_ ?_
  · refine s_forI (fun pre post e h => ∃ (z : Str) (x3 x4 : Option D), okS z ∧ z.length ≤ pre.length * 4 ∧ e = [some (.ref 0), some (scr ns), some (.str z), x3, x4] ∧ St t h) ?_
    walk_at "x"
    walk_at "nx"
    intro r0 h0 a0 b0 s0
    walk_at "x"
    refine x_rng1 (by omega) ⟨⟨"", _, _, (by decide +kernel), by decide, rfl, s0⟩, fun _ _ _ _ _ _ => trivial, ?_, ?_⟩
    · rintro pre x post e h1 hx ⟨z, x3, x4, hz, hl, rfl, s1⟩
      have hk : x = .int (pre.length : Int) ∧ pre.length < r0.toNat := by
        have hx : rngL 0 r0.toNat = pre ++ x :: post := hx
        have hq := congrArg List.length hx
        simp only [rngL, List.length_map, List.length_range, List.length_append, List.length_cons] at hq
        have h2 : (rngL 0 r0.toNat)[pre.length]? = some x := by rw [hx]; simp
        have hl : pre.length < r0.toNat := by omega
        simp [rngL, hl] at h2
        exact ⟨h2.symm, hl⟩
      obtain ⟨rfl, hk⟩ := hk
      refine ⟨_, rfl, ?_⟩
      walk_at "x"
      walk_at "nx"
      intro r2 h2 a2 b2 s2
      walk_at "x"
      refine ⟨fun e => ?_, fun e => ?_⟩
      · have e : r2 < 6 := by simpa using e
        walk_at "x"
        refine ⟨sl_le (by simp), ?_⟩
        walk_at "x"
        obtain ⟨d, e1, m, _⟩ := atI_ok (xs := [D.str "a", .str "b", .str "ab", .str "\n", .str " ", .str "one\n"]) a2 e
        refine x_some (d := d) e1 ?_
        have : ∃ y : Str, d = .str y ∧ okS y ∧ y.length ≤ 4 := by
          simp only [List.mem_cons, List.not_mem_nil, or_false] at m
          rcases m with rfl | rfl | rfl | rfl | rfl | rfl
          all_goals exact ⟨_, rfl, by decide +kernel, by decide +kernel⟩
        obtain ⟨y, rfl, hy, hyl⟩ := this
        refine v_adds (sl_le (by omega)) ?_
        exact ⟨z ++ y, _, _, okS_app hz hy, by rw [len_app, List.length_append]; simp only [List.length_cons, List.length_nil]; omega, rfl, s2⟩
      · walk_at "x"
        walk_at "nx"
        intro r3 h3 a3 b3 s3
        walk_at "x"
        refine ochar_k a3 b3 fun c hc => ?_
        refine v_adds (sl_le (by rw [len_ch]; omega)) ?_
        have hcc : okS (ch c) := okS_iff.mpr fun d m => by
          have m : d ∈ [c] := m
          rw [List.mem_singleton.mp m]; exact Nat.lt_trans hc (by decide)
        exact ⟨z ++ ch c, _, _, okS_app hz hcc, by rw [len_app, len_ch, List.length_append]; simp only [List.length_cons, List.length_nil]; omega, rfl, s3⟩
    · rintro e h1 ⟨z, x3, x4, hz, hl, rfl, s1⟩
      have hl : z.length ≤ (rngL 0 r0.toNat).length * 4 := hl
      have hlr : (rngL 0 r0.toNat).length = r0.toNat := by simp [rngL]
      exact ⟨z, x3, x4, hz, by omega, rfl, s1⟩
  rintro e h1 ⟨z, x3, x4, hz, hl, rfl, s1⟩
  walk_at "x"
  exact k z _ hz hl s1
end
end Vi

set_option Elab.async false
set_option linter.all false
set_option autoImplicit false
set_option maxRecDepth 100000
set_option maxHeartbeats 2000000
namespace Vi
open PySem PySem.Spec PyProof.Rows L2
open scoped Classical
local macro_rules | `(tactic| walk_at "x1") => `(tactic| with_reducible first
  | refine x_bin ?_ | refine x_tst ?_ | refine x_oB ?_ | refine x_c ?_ | refine s_seqA ?_ | refine s_seqU ?_ | refine s_seqE ?_ | refine s_seqN ?_ | refine s_seqD ?_ | refine s_seqF ?_ | refine s_seqL ?_ | refine s_asg' ?_ | refine s_if' ?_ | refine s_ret' ?_ | refine s_exp' ?_ | refine s_next ?_ | refine s_retN' ?_ | refine s_sub' ?_ | refine s_dsub' ?_ | refine s_setF' ?_ | refine s_ddel' ?_
  | refine x_cb ?_ | refine x_cons ?_ | refine x_nil ?_ | refine x_call ?_ | refine x_met ?_ | refine x_meth ?_ | refine x_make ?_ | refine x_fld ?_ | refine x_un ?_ | refine x_notT ?_ | refine x_andT ?_ | refine x_orT ?_ | refine x_and ?_ | refine x_or ?_ | refine x_not ?_ | refine x_if ?_
  | refine x_tup ?_ | refine x_lst ?_ | refine x_cel ?_ | refine x_dnew ?_ | refine x_sortIt ?_ | refine x_sl ?_ | refine x_noP ?_ | refine x_part ?_ | refine x_oI ?_ | refine x_mI ?_ | refine x_rng ?_ | refine x_yes ?_ | refine x_chn ?_ | refine x_fun ?_ | refine x_ok ?_)
local macro_rules | `(tactic| walk_at "x2") => `(tactic| first
  | ((with_reducible refine y_var ?_); refine ⟨_, rfl, ?_⟩)
  | ((with_reducible refine y_some ?_); refine ⟨_, rfl, ?_⟩)
  | ((with_reducible refine y_gP ?_); refine ⟨_, rfl, ?_⟩))
local macro_rules | `(tactic| walk_at "x") => `(tactic| repeat (first | walk_at "x1" | walk_at "x2" ))
local macro_rules | `(tactic| walk_at "nx") => `(tactic| (refine next_k (by assumption) (by assumption) (by first | decide | omega) (by first | decide | omega) ?_))
section
variable {t h : Hap} {ns : List Int} {P : D → Hap → Prop}
theorem St.at28 {t h : Hap} (s : St t h) (i : Nat) : h[i + 1]? = t[i]? := by
  obtain ⟨a, b, c, rfl, _⟩ := s
  rfl
theorem St.set28 {t h : Hap} (s : St t h) (i : Nat) (c : Cel) : St (t.set i c) (h.set (i + 1) c) := by
  obtain ⟨a, b, d, rfl, z⟩ := s
  exact ⟨a, b, d, rfl, z⟩
theorem St.app28 {t h : Hap} (s : St t h) (c : Cel) : St (t ++ [c]) (h ++ [c]) := by
  obtain ⟨a, b, d, rfl, z⟩ := s
  exact ⟨a, b, d, rfl, z⟩
theorem St.len28 {t h : Hap} (s : St t h) : h.length = t.length + 1 := by
  obtain ⟨a, b, d, rfl, z⟩ := s
  rfl
theorem str28 {L : List Str} {r : Int} (h0 : 0 ≤ r) (h1 : r < L.length) : ∃ y, L[r.toNat]? = some y ∧ y ∈ L ∧ atI (L.map D.str) r = some (.str y) := by
  have hl : r.toNat < L.length := by omega
  refine ⟨L[r.toNat], List.getElem?_eq_getElem hl, List.getElem_mem hl, ?_⟩
  unfold atI ixN
  rw [if_pos h0, if_pos (by rw [List.length_map]; exact h1)]
  simp [hl]
theorem ix28 {d y : D} {xs : List D} {i : Int} (e : getQ d h = some xs) (e2 : atI xs i = some y) (p : P y h) : Sat (ofO (dIx d (.int i) h) h) P := x_some (by
  unfold dIx
  cases d with
  | str z => simp [getQ, getL] at e
  | _ => simp only []; rw [e]; exact e2) p
theorem tools_ok : ∀ y ∈ (["join", "pick", "sort", "head", "swap", "upper", "count", "same", "need", "tool"] : List Str), okS y := by decide +kernel
theorem tool_k (s : St t h) (hn : ns.length ≤ 63) (k : ∀ z h', okS z → St t h' → P (.str z) h') : Sat (Mi.m_law_tool [.ref 0, scr ns] h) P := by
  unfold Mi.m_law_tool Mi.b_law_tool
  refine x_fun (s_seq (s_asg' (x_lst (x_cons (x_c (x_cons (x_c (x_cons (x_c (x_cons (x_c (x_cons (x_c (x_cons (x_c (x_cons (x_c (x_cons (x_c (x_cons (x_c (x_cons (x_c (x_nil ⟨sl_le (show 10 ≤ 16777216 by decide), ?_⟩))))))))))))))))))))))))
  dsimp only
  refine s_ret' (x_bin (x_var rfl (x_call (x_cons (x_var rfl (x_cons (x_var rfl (x_cons (x_c (x_nil (next_k s hn (by decide) (by decide) fun r h' r0 r1 s' => ?_)))))))))))
  obtain ⟨y, -, my, ey⟩ := str28 (L := ["join", "pick", "sort", "head", "swap", "upper", "count", "same", "need", "tool"]) r0 r1
  exact ix28 (xs := (["join", "pick", "sort", "head", "swap", "upper", "count", "same", "need", "tool"] : List Str).map .str) rfl ey (k y h' (tools_ok y my) s')
abbrev AL12 : Str := "abcdefghijkl"
theorem fold_len : ∀ f ∈ (["", "", "a", "lib", "a/b"] : List Str), f.length ≤ 3 := by decide +kernel
theorem fold_ok : ∀ f ∈ (["", "", "a", "lib", "a/b"] : List Str), okS f := by decide +kernel
theorem labels_k {many : Int} (s : St t h) (hn : ns.length ≤ 63) (m0 : 0 ≤ many) (m1 : many ≤ 50) (k : ∀ (Ls : List Str) h', Ls.Nodup → (∀ y ∈ Ls, okS y ∧ 1 ≤ y.length ∧ y.length ≤ 100) ∧ (1 ≤ many → Ls ≠ []) → Ls.length ≤ many.toNat → St (t ++ [.lst (Ls.map .str)]) h' → P (.ref (t.length + 1)) h') : Sat (Mi.m_law_labels [.ref 0, scr ns, .int many] h) P := by
  unfold Mi.m_law_labels Mi.b_law_labels
  refine x_fun (s_seq (s_asg' (x_cel (x_nil ⟨sl_le (show 0 ≤ 16777216 by decide), ?_⟩))))
  rw [s.len28]
  have s1 := s.app28 (.lst (([] : List Str).map .str))
  have l2 : ("//" : Str).length = 2 := by decide +kernel
  have l1 : (":" : Str).length = 1 := by decide +kernel
  have gv : ∀ {Ls : List Str} {h' : Hap}, St (t ++ [.lst (Ls.map .str)]) h' → h'[t.length + 1]? = some (.lst (Ls.map .str)) := fun s' => (s'.at28 t.length).trans (by rw [List.getElem?_append_right (Nat.le_refl _), Nat.sub_self]; rfl)
  dsimp only
  refine s_seq (s_forI (fun pre post e h' => ∃ Ls x4 x5 x6 x7, e = [some (.ref 0), some (scr ns), some (.int many), some (.ref (t.length + 1)), x4, x5, x6, x7] ∧ St (t ++ [.lst ((Ls : List Str).map .str)]) h' ∧ Ls.Nodup ∧ (∀ y ∈ Ls, okS y ∧ 1 ≤ y.length ∧ y.length ≤ 100) ∧ Ls.length ≤ pre.length ∧ (pre ≠ [] → Ls ≠ [])) ?_)
  refine x_rng (x_cons (x_var rfl (x_nil (x_rng1 (by omega) ⟨⟨[], _, _, _, _, rfl, s1, List.nodup_nil, fun y m => absurd m List.not_mem_nil, Nat.le_refl _, fun z => absurd rfl z⟩, fun _ _ _ _ _ _ => trivial, ?_, ?_⟩))))
  · rintro pre y post e h' hx ⟨Ls, x4, x5, x6, x7, rfl, s2, nL, oL, lL, neL⟩
    obtain ⟨rfl, hk⟩ := rng28 hx
    have hk : pre.length < many.toNat := hk
    refine ⟨_, rfl, ?_⟩
    refine s_seq (s_asg' (x_bin (x_lst (x_cons (x_c (x_cons (x_c (x_cons (x_c (x_cons (x_c (x_cons (x_c (x_nil ⟨sl_le (show 5 ≤ 16777216 by decide), x_call (x_cons (x_var rfl (x_cons (x_var rfl (x_cons (x_c (x_nil (next_k s2 hn (by decide) (by decide) fun r h2 r0 r1 s3 => ?_))))))))⟩))))))))))))))
    obtain ⟨f, -, mf, ef⟩ := str28 (L := ["", "", "a", "lib", "a/b"]) r0 r1
    refine ix28 (xs := (["", "", "a", "lib", "a/b"] : List Str).map .str) rfl ef ?_
    have lf := fold_len f mf
    dsimp only
    refine s_seq (s_asg' (x_bin (x_c (x_call (x_cons (x_var rfl (x_cons (x_var rfl (x_cons (x_c (x_nil (next_k s3 hn (by decide) (by decide) fun q h3 q0 q1 s4 => ?_))))))))))))
    obtain ⟨c, ec, mc, _⟩ := atI_ok (xs := AL12.cps.toList) q0 (by rw [len_list]; exact q1)
    refine v_ixS (sl_le (by decide)) ec ?_
    dsimp only
    refine s_seq (s_asg' (x_bin (x_bin (x_bin (x_c (x_var rfl (v_adds (x := "//") (sl_le (by rw [l2]; omega)) (x_c (v_adds (y := ":") (sl_le (by rw [len_app, l2, l1]; omega)) (x_var rfl (v_adds (sl_le (by rw [len_app, len_app, l2, l1, len_ch]; omega)) ?_)))))))))))
    have ob : okS (("//" : Str) ++ f ++ ":" ++ ch c) ∧ 1 ≤ (("//" : Str) ++ f ++ ":" ++ ch c).length ∧ (("//" : Str) ++ f ++ ":" ++ ch c).length ≤ 100 := by
      refine ⟨?_, by rw [len_app, len_app, len_app, l2]; omega, by rw [len_app, len_app, len_app, l2, l1, len_ch]; omega⟩
      exact okS_app (okS_app (okS_app (by decide +kernel) (fold_ok f mf)) (by decide +kernel)) (okS_ch (z := AL12) (by decide +kernel) mc)
    generalize ("//" : Str) ++ f ++ ":" ++ ch c = lb at ob ⊢
    dsimp only
    refine s_if' (x_tst (x_bin (x_var rfl (x_var rfl (x_some (d := .bl (!decide (lb ∈ Ls))) (by unfold dNotIn; rw [in28r (gv s4)]; rfl) (x_oB ⟨fun z => ?_, fun z => s_next ?_⟩))))))
    · have z : lb ∉ Ls := of_decide_eq_false (not_t z)
      refine s_exp' (x_met (x_var rfl ⟨isl28 (gv s4), x_cons (x_var rfl (x_nil (v28_app (gv s4) (by rw [List.length_map]; omega) ?_)))⟩))
      have s5 := s4.set28 t.length (.lst ((Ls ++ [lb]).map .str))
      rw [List.set_append_right _ _ (Nat.le_refl _), Nat.sub_self] at s5
      have ea : Ls.map D.str ++ [D.str lb] = (Ls ++ [lb]).map D.str := by rw [List.map_append]; rfl
      rw [ea]
      refine ⟨Ls ++ [lb], _, _, _, _, rfl, s5, ?_, fun y m => (List.mem_append.mp m).elim (oL y) (fun m => by rw [List.mem_singleton.mp m]; exact ob), by rw [List.length_append, List.length_append]; exact Nat.succ_le_succ lL, fun _ => by simp⟩
      rw [List.nodup_append]
      exact ⟨nL, by simp, fun a ma b mb e => z (by rw [← List.mem_singleton.mp mb, ← e]; exact ma)⟩
    · have zm : Ls ≠ [] := List.ne_nil_of_mem (of_decide_eq_true (not_f z))
      exact ⟨Ls, _, _, _, _, rfl, s4, nL, oL, by rw [List.length_append]; omega, fun _ => zm⟩
  · rintro e h' ⟨Ls, x4, x5, x6, x7, rfl, s2, nL, oL, lL, neL⟩
    have lr : (rngL 0 many.toNat).length = many.toNat := by simp [rngL]
    have lL : Ls.length ≤ (rngL 0 many.toNat).length := lL
    have ne2 : 1 ≤ many → Ls ≠ [] := fun z => neL (List.ne_nil_of_length_pos (by show 0 < (rngL 0 many.toNat).length; omega))
    dsimp only
    exact s_ret' (x_var rfl (k Ls h' nL ⟨oL, ne2⟩ (by omega) s2))
end
end Vi

set_option Elab.async false
set_option linter.all false
set_option autoImplicit false
set_option maxRecDepth 100000
set_option maxHeartbeats 2000000
namespace Vi
open PySem PySem.Spec PyProof.Rows L2
open scoped Classical
local macro_rules | `(tactic| walk_at "x1") => `(tactic| with_reducible first
  | refine x_bin ?_ | refine x_tst ?_ | refine x_oB ?_ | refine x_c ?_ | refine s_seqA ?_ | refine s_seqU ?_ | refine s_seqE ?_ | refine s_seqN ?_ | refine s_seqD ?_ | refine s_seqF ?_ | refine s_seqL ?_ | refine s_asg' ?_ | refine s_if' ?_ | refine s_ret' ?_ | refine s_exp' ?_ | refine s_next ?_ | refine s_retN' ?_ | refine s_sub' ?_ | refine s_dsub' ?_ | refine s_setF' ?_ | refine s_ddel' ?_
  | refine x_cb ?_ | refine x_cons ?_ | refine x_nil ?_ | refine x_call ?_ | refine x_met ?_ | refine x_meth ?_ | refine x_make ?_ | refine x_fld ?_ | refine x_un ?_ | refine x_notT ?_ | refine x_andT ?_ | refine x_orT ?_ | refine x_and ?_ | refine x_or ?_ | refine x_not ?_ | refine x_if ?_
  | refine x_tup ?_ | refine x_lst ?_ | refine x_cel ?_ | refine x_dnew ?_ | refine x_sortIt ?_ | refine x_sl ?_ | refine x_noP ?_ | refine x_part ?_ | refine x_oI ?_ | refine x_mI ?_ | refine x_rng ?_ | refine x_yes ?_ | refine x_chn ?_ | refine x_fun ?_ | refine x_ok ?_)
local macro_rules | `(tactic| walk_at "x2") => `(tactic| first
  | ((with_reducible refine y_var ?_); refine ⟨_, rfl, ?_⟩)
  | ((with_reducible refine y_some ?_); refine ⟨_, rfl, ?_⟩)
  | ((with_reducible refine y_gP ?_); refine ⟨_, rfl, ?_⟩))
local macro_rules | `(tactic| walk_at "x") => `(tactic| repeat (first | walk_at "x1" | walk_at "x2" ))
local macro_rules | `(tactic| walk_at "nx") => `(tactic| (refine next_k (by assumption) (by assumption) (by first | decide | omega) (by first | decide | omega) ?_))
section
variable {t h : Hap} {ns : List Int} {P : D → Hap → Prop} {env : Env}
theorem x_disp28 {ks : List Str} {ms : List ME} (s : Sat (mLs ms env (h ++ [.dct []])) fun ds h2 => h2[h.length]? = some (.dct []) ∧ ds.length = ks.length ∧ ks.length ≤ 15 ∧ P (.ref h.length) (h2.set h.length (.dct ((ks.zip ds).foldl (fun acc kv => putD acc (.inr kv.1) kv.2) [])))) : Sat (mDisp ks ms env h) P := by
  unfold mDisp
  refine Sat.bind (s.mono fun ds h2 z => ?_)
  obtain ⟨a, b, d, p⟩ := z
  rw [a]
  simp only []
  rw [if_pos ⟨b, d⟩]
  exact p
theorem many_ok {kvs : List (Key × D)} (h : ∀ kv ∈ kvs, ∃ i : Int, kv.2 = .int i ∧ 0 ≤ i ∧ i ≤ 3) (z : Str) : ∃ i : Int, (valD kvs (.inr z)).getD (.int 0) = .int i ∧ 0 ≤ i ∧ i ≤ 3 := by
  unfold valD
  cases q : kvs.find? fun kv => decide (kv.1 = (.inr z : Key)) with
  | none => exact ⟨0, rfl, by decide, by decide⟩
  | some kv =>
    obtain ⟨i, e, a⟩ := h kv (List.mem_of_find?_eq_some q)
    exact ⟨i, by show kv.2 = _; exact e, a⟩
theorem put_all {Q : D → Prop} : ∀ (l : List (Str × D)) (acc : List (Key × D)), (∀ kv ∈ l, Q kv.2) → (∀ kv ∈ acc, Q kv.2) → ∀ kv ∈ l.foldl (fun acc kv => putD acc (.inr kv.1) kv.2) acc, Q kv.2
  | [], acc, _, h => h
  | x :: l, acc, h1, h2 => by
    refine put_all l _ (fun kv m => h1 kv (List.mem_cons_of_mem _ m)) fun kv m => ?_
    have m : kv ∈ putD acc (.inr x.1) x.2 := m
    unfold putD at m
    split at m
    · obtain ⟨q, mq, e⟩ := List.mem_map.mp m
      rw [← e]
      split
      · exact h1 x List.mem_cons_self
      · exact h2 q mq
    · rcases List.mem_append.mp m with m | m
      · exact h2 kv m
      · rw [List.mem_singleton.mp m]; exact h1 x List.mem_cons_self
theorem str12 {r : Int} (h0 : 0 ≤ r) (h1 : r < 12) (h : Hap) : ∃ z : Str, okS z ∧ dStr [.int r] h = some (.str z) := by
  suffices hh : okS (Str.ofString (toString r)) ∧ r.natAbs.log2 < 1920 from ⟨_, hh.1, if_pos hh.2⟩
  have : r = 0 ∨ r = 1 ∨ r = 2 ∨ r = 3 ∨ r = 4 ∨ r = 5 ∨ r = 6 ∨ r = 7 ∨ r = 8 ∨ r = 9 ∨ r = 10 ∨ r = 11 := by omega
  rcases this with rfl | rfl | rfl | rfl | rfl | rfl | rfl | rfl | rfl | rfl | rfl | rfl <;> exact ⟨by decide +kernel, by decide⟩
theorem okS_c27 {x : Str} {l u : Option Int} (hx : okS x) : okS (cutS x l u) := okS_iff.mpr fun c m => okS_iff.mp hx c (List.mem_of_mem_drop (List.mem_of_mem_take (show c ∈ (x.cps.toList.drop _).take _ from m)))
theorem chs_map {z : Str} (oz : okS z) : ∃ ys : List Str, (z.cps.toList.map fun c => D.str (ch c)) = ys.map D.str ∧ ys.length = z.length ∧ ∀ y ∈ ys, y.length ≤ 1 ∧ okS y := by
  refine ⟨z.cps.toList.map ch, by rw [List.map_map]; rfl, by rw [List.length_map]; exact len_list z, fun y m => ?_⟩
  obtain ⟨c, mc, rfl⟩ := List.mem_map.mp m
  exact ⟨by rw [len_ch]; exact Nat.le_refl _, okS_ch oz mc⟩
theorem args_k {tool : Str} (s : St t h) (hn : ns.length ≤ 63) (k : ∀ (as : List Str) g h', St (t ++ g) h' → as.length ≤ 4 → (∀ a ∈ as, okS a) → P (.tup (as.map .str)) h') : Sat (Mi.m_law_args [.ref 0, scr ns, .str tool] h) P := by
  unfold Mi.m_law_args Mi.b_law_args
  refine x_fun (s_seq (s_asg' (x_met (x_disp28 ?_))))
  refine (show Sat (mCons (mC (.int 1)) (mCons (mC (.int 1)) (mCons (mC (.int 1)) (mCons (mC (.int 1)) (mCons (mC (.int 2)) mNil)))) _ _) _ from ?_)
  refine x_cons (x_c (x_cons (x_c (x_cons (x_c (x_cons (x_c (x_cons (x_c (x_nil ⟨ge1 _ _, rfl, (show 5 ≤ 15 by decide), ?_⟩))))))))))
  rw [se1]
  obtain ⟨kds, ek⟩ : ∃ kds, kds = ((["join", "pick", "head", "need", "swap"] : List Str).zip [D.int 1, .int 1, .int 1, .int 1, .int 2]).foldl (fun acc (kv : Str × D) => putD acc (.inr kv.1) kv.2) [] := ⟨_, rfl⟩
  have ak : ∀ kv ∈ kds, ∃ i : Int, kv.2 = .int i ∧ 0 ≤ i ∧ i ≤ 3 := by
    rw [ek]
    refine put_all (Q := fun d => ∃ i : Int, d = .int i ∧ 0 ≤ i ∧ i ≤ 3) _ _ (fun kv m => ?_) (fun kv m => absurd m List.not_mem_nil)
    have m2 : kv.2 ∈ [D.int 1, .int 1, .int 1, .int 1, .int 2] := (List.of_mem_zip (a := kv.1) (b := kv.2) m).2
    simp only [List.mem_cons, List.not_mem_nil, or_false] at m2
    rcases m2 with e | e | e | e | e <;> exact ⟨_, e, by decide, by decide⟩
  rw [← ek]
  obtain ⟨m0, em, z0, z1⟩ := many_ok ak tool
  have s1 := s.app28 (.dct kds)
  refine ⟨isd_at (ge1 _ _), x_cons (x_var rfl (x_cons (x_c (x_nil (v28_get2 (ge1 _ _) ?_)))))⟩
  rw [em]
  generalize h ++ [Cel.dct kds] = h1 at s1 ⊢
  clear ek ak em s
  have rest : ∀ (m : Int) (h2 : Hap), 0 ≤ m → m ≤ 3 → St (t ++ [.dct kds]) h2 → SatS ((mSeq (mAsg (mCel mNil) (gNm 4))
    (mSeq (mFor (mRng rng1 (mCons (mVar 3) mNil)) (gNm 5) (mSeq (mAsg (mMet "str" (gP dJoin) (mC (.str "")) (mCons (mComp (mI (mSl (mCall Mi.m_law_words (mCons (mVar 0) (mCons (mVar 1) mNil))) mNoP (mPart (mC (.int 6))))) [7] (gNm 7) (mTst (mBin dNe (mVar 7) (mC (.str "\n")))) (mVar 7)) mNil)) (gNm 6))
    (mSeq (mIfS (mAndT (mTst (mBin dEq (mVar 2) (mC (.str "head")))) (mTst (mBin dGt (mCall Mi.m_law_next (mCons (mVar 0) (mCons (mVar 1) (mCons (mC (.int 6)) mNil)))) (mC (.int 0))))) (mAsg (mCB dStr (mCons (mCall Mi.m_law_next (mCons (mVar 0) (mCons (mVar 1) (mCons (mC (.int 12)) mNil)))) mNil)) (gNm 6)) mNext)
    (mExp (mMet "list" gAppend (mVar 4) (mCons (mVar 6) mNil))))))
    (mRet (mCB dTupleOf (mCons (mVar 4) mNil))))) [some (.ref 0), some (scr ns), some (.str tool), some (.int m), none, none, none, none] h2) ⟨fun _ h => P .non h, P, fun _ _ => False, fun _ _ => False⟩ := fun m h2 m0 m1 s2 => by
    have tl : (t ++ [Cel.dct kds]).length = t.length + 1 := by rw [List.length_append]; rfl
    refine s_seq (s_asg' (x_cel (x_nil ⟨sl_le (show 0 ≤ 16777216 by decide), ?_⟩)))
    have s3 := s2.app28 (.lst (([] : List Str).map .str))
    rw [s2.len28]
    have gv : ∀ {as : List Str} {h' : Hap}, St (t ++ [.dct kds] ++ [.lst (as.map .str)]) h' → h'[(t ++ [Cel.dct kds]).length + 1]? = some (.lst (as.map .str)) := fun s' => (s'.at28 _).trans (by rw [List.getElem?_append_right (Nat.le_refl _), Nat.sub_self]; rfl)
    dsimp only
    refine s_seq (s_forI (fun pre post e h' => ∃ (as : List Str) (x5 x6 x7 : Option D), e = [some (.ref 0), some (scr ns), some (.str tool), some (.int m), some (.ref ((t ++ [Cel.dct kds]).length + 1)), x5, x6, x7] ∧ St (t ++ [.dct kds] ++ [.lst (as.map .str)]) h' ∧ as.length = pre.length ∧ ∀ a ∈ as, okS a) ?_)
    refine x_rng (x_cons (x_var rfl (x_nil (x_rng1 (by omega) ⟨⟨[], _, _, _, rfl, s3, rfl, fun a m => absurd m List.not_mem_nil⟩, fun _ _ _ _ _ _ => trivial, ?_, ?_⟩))))
    · rintro pre y post e h' hx ⟨as, x5, x6, x7, rfl, s4, la, oas⟩
      obtain ⟨rfl, hk⟩ := rng28 hx
      have hk : pre.length < m.toNat := hk
      refine ⟨_, rfl, ?_⟩
      refine s_seq (s_asg' (x_met (x_c ⟨rfl, x_cons (x_compI (fun pre post h1 acc => St (t ++ [.dct kds] ++ [.lst (as.map .str)]) h1 ∧ ∃ ys : List Str, acc = ys.map D.str ∧ ys.length ≤ pre.length ∧ (∀ y ∈ ys, y.length ≤ 1 ∧ okS y) ∧ pre.length ≤ 24 ∧ (∃ cs : List Str, pre ++ post = cs.map D.str ∧ (∀ y ∈ cs, y.length ≤ 1 ∧ okS y) ∧ cs.length ≤ 24)) ?_)⟩)))
      refine x_mI (x_sl (x_call (x_cons (x_var rfl (x_cons (x_var rfl (x_nil (owords_k s4 hn fun z h5 oz lz s5 => x_noP (x_part (x_c (x_oI (v_slS (sl_le (by omega)) ?_))))))))))))
      obtain ⟨cs, ec, lc, cc⟩ := chs_map (z := cutS z none (some 6)) (okS_c27 oz)
      have lcut := len_cutS z none (some 6)
      refine ⟨cs.map D.str, ?_, ⟨s5, [], rfl, Nat.le_refl _, (fun y m => nomatch m), Nat.zero_le _, cs, rfl, cc, by omega⟩, fun _ _ _ _ _ _ => ?_, ?_, ?_⟩
      · rw [← ec]; rfl
      · show seqOf _ _ = _
        rw [← ec]; rfl
      · rintro pre2 x post2 h6 acc hx2 ⟨s6, ys, rfl, ly, cy, lp, cs', e', cc', lc'⟩
        obtain ⟨a, ea, ma⟩ : ∃ a, x = D.str a ∧ a ∈ cs' := by
          have : x ∈ cs'.map D.str := by rw [← e']; simp
          obtain ⟨a, ma, e⟩ := List.mem_map.mp this
          exact ⟨a, e.symm, ma⟩
        subst ea
        have lpp : pre2.length + 1 ≤ 24 := by
          have := congrArg List.length e'
          rw [List.length_append, List.length_cons, List.length_map] at this
          omega
        have nxt : ∀ h7 (ys' : List Str), St (t ++ [.dct kds] ++ [.lst (as.map .str)]) h7 → ys'.length ≤ pre2.length + 1 → (∀ y ∈ ys', y.length ≤ 1 ∧ okS y) → ∀ acc', acc' = ys'.map D.str → St (t ++ [.dct kds] ++ [.lst (as.map .str)]) h7 ∧ ∃ ys : List Str, acc' = ys.map D.str ∧ ys.length ≤ (pre2 ++ [D.str a]).length ∧ (∀ y ∈ ys, y.length ≤ 1 ∧ okS y) ∧ (pre2 ++ [D.str a]).length ≤ 24 ∧ ∃ cs : List Str, pre2 ++ [D.str a] ++ post2 = cs.map D.str ∧ (∀ y ∈ cs, y.length ≤ 1 ∧ okS y) ∧ cs.length ≤ 24 := fun h7 ys' s7 l7 c7 acc' ea => ⟨s7, ys', ea, by rw [List.length_append]; exact l7, c7, by rw [List.length_append]; exact lpp, cs', by rw [← e']; simp, cc', lc'⟩
        refine ⟨_, rfl, x_tst (x_bin (x_var rfl (x_c (x_some (d := .bl (!decide (a = "\n"))) rfl (x_oB ⟨fun _ => ⟨?_, x_var rfl (nxt h6 (ys ++ [a]) s6 (by rw [List.length_append]; exact Nat.succ_le_succ ly) (fun y m => (List.mem_append.mp m).elim (cy y) fun w => by rw [List.mem_singleton.mp w]; exact cc' a ma) _ (by rw [List.map_append]; rfl))⟩, fun _ => nxt h6 ys s6 (by omega) cy _ rfl⟩)))))⟩
        rw [List.length_map]
        exact Nat.lt_of_le_of_lt (show ys.length ≤ 24 by omega) (Nat.lt_of_lt_of_le (show 24 < 16777216 by decide) (sl_le (Nat.le_refl _)))
      · rintro h6 acc ⟨s6, ys, rfl, ly, cy, lp, _⟩
        have lj : (ys.map (·.length)).sum + ys.length * ("" : Str).length ≤ 16777216 := by
          have a := sum_le (f := fun y : Str => y.length) (c := 1) (l := ys) fun y m => (cy y m).1
          have b : ("" : Str).length = 0 := rfl
          have c : ys.length ≤ 24 := Nat.le_trans ly lp
          rw [b]
          omega
        refine x_nil (v_join (a := "") (ys := ys) rfl lj ?_)
        have oj : okS (Txt.join "" ys) := okS_join (by decide +kernel) fun y m => (cy y m).2
        generalize Txt.join "" ys = ag at oj ⊢
        dsimp only
        have app : ∀ {Q : Ps} (ag : Str) (h7 : Hap) (x7 : Option D), okS ag → St (t ++ [.dct kds] ++ [.lst (as.map .str)]) h7 → (∀ e h, (∃ (as : List Str) (x5 x6 x7 : Option D), e = [some (.ref 0), some (scr ns), some (.str tool), some (.int m), some (.ref ((t ++ [Cel.dct kds]).length + 1)), x5, x6, x7] ∧ St (t ++ [.dct kds] ++ [.lst (as.map .str)]) h ∧ as.length = (pre ++ [D.int (pre.length : Int)]).length ∧ ∀ a ∈ as, okS a) → Q.n e h) → SatS (mExp (mMet "list" gAppend (mVar 4) (mCons (mVar 6) mNil)) [some (.ref 0), some (scr ns), some (.str tool), some (.int m), some (.ref ((t ++ [Cel.dct kds]).length + 1)), some (.int (pre.length : Int)), some (.str ag), x7] h7) Q := fun ag h7 x7 oa s7 kq => by
          refine s_exp' (x_met (x_var rfl ⟨isl28 (gv s7), x_cons (x_var rfl (x_nil (v28_app (gv s7) (by rw [List.length_map]; omega) ?_)))⟩))
          have s8 := s7.set28 (t ++ [Cel.dct kds]).length (.lst ((as ++ [ag]).map .str))
          rw [List.set_append_right _ _ (Nat.le_refl _), Nat.sub_self] at s8
          have ea : as.map D.str ++ [D.str ag] = (as ++ [ag]).map D.str := by rw [List.map_append]; rfl
          rw [ea]
          exact kq _ _ ⟨as ++ [ag], _, _, _, rfl, s8, by rw [List.length_append, List.length_append, la]; rfl, fun a m => (List.mem_append.mp m).elim (oas a) fun m => by rw [List.mem_singleton.mp m]; exact oa⟩
        refine s_seq (s_if' ?_)
        refine x_andT (x_tst (x_bin (x_var rfl (x_c (x_some (d := .bl (decide (tool = "head"))) rfl (x_oB ⟨fun _ => ?_, fun _ => ⟨fun e => (nomatch e), fun _ => s_next (app ag h6 _ oj s6 fun _ _ q => q)⟩⟩))))))
        refine x_tst (x_bin (x_call (x_cons (x_var rfl (x_cons (x_var rfl (x_cons (x_c (x_nil (next_k s6 hn (by decide) (by decide) fun r h7 r0 r1 s7 => ?_))))))))))
        refine x_c (x_some (d := .bl (decide (r > 0))) rfl (x_oB ⟨fun _ => ?_, fun _ => s_next (app ag h7 _ oj s7 fun _ _ q => q)⟩))
        refine s_asg' (x_cb (x_cons (x_call (x_cons (x_var rfl (x_cons (x_var rfl (x_cons (x_c (x_nil (next_k s7 hn (by decide) (by decide) fun q h8 q0 q1 s8 => ?_)))))))))))
        obtain ⟨z, oz2, ez⟩ := str12 q0 q1 h8
        exact x_nil (x_some ez (app z h8 _ oz2 s8 fun _ _ q => q))
    · rintro e h' ⟨as, x5, x6, x7, rfl, s4, la, oas⟩
      have lr : (rngL 0 m.toNat).length = m.toNat := by simp [rngL]
      have la : as.length = (rngL 0 m.toNat).length := la
      dsimp only
      refine s_ret' (x_cb (x_cons (x_var rfl (x_nil (x_some (d := .tup (as.map .str)) ?_ (k as ([.dct kds] ++ [.lst (as.map .str)]) h' (by rw [← List.append_assoc]; exact s4) (by omega) oas))))))
      unfold dTupleOf
      simp only []
      rw [gq28 (gv s4)]
      rfl
  dsimp only
  refine s_seq (s_if' (x_tst (x_bin (x_call (x_cons (x_var rfl (x_cons (x_var rfl (x_cons (x_c (x_nil (next_k s1 hn (by decide) (by decide) fun r h2 r0 r1 s2 => ?_))))))))))))
  refine x_c (x_some (d := .bl (decide (r = 0))) rfl (x_oB ⟨fun _ => ?_, fun _ => s_next ?_⟩))
  · refine s_asg' (x_call (x_cons (x_var rfl (x_cons (x_var rfl (x_cons (x_c (x_nil (next_k s2 hn (by decide) (by decide) fun q h3 q0 q1 s3 => ?_)))))))))
    exact rest q h3 q0 (by omega) s3
  · exact rest m0 h2 z0 z1 s2
end
end Vi

set_option Elab.async false
set_option linter.all false
set_option autoImplicit false
set_option maxRecDepth 100000
set_option maxHeartbeats 2000000
namespace Vi
open PySem PySem.Spec PyProof.Rows L2
open scoped Classical
local macro_rules | `(tactic| walk_at "x1") => `(tactic| with_reducible first
  | refine x_bin ?_ | refine x_tst ?_ | refine x_oB ?_ | refine x_c ?_ | refine s_seqA ?_ | refine s_seqU ?_ | refine s_seqE ?_ | refine s_seqN ?_ | refine s_seqD ?_ | refine s_seqF ?_ | refine s_seqL ?_ | refine s_asg' ?_ | refine s_if' ?_ | refine s_ret' ?_ | refine s_exp' ?_ | refine s_next ?_ | refine s_retN' ?_ | refine s_sub' ?_ | refine s_dsub' ?_ | refine s_setF' ?_ | refine s_ddel' ?_
  | refine x_cb ?_ | refine x_cons ?_ | refine x_nil ?_ | refine x_call ?_ | refine x_met ?_ | refine x_meth ?_ | refine x_make ?_ | refine x_fld ?_ | refine x_un ?_ | refine x_notT ?_ | refine x_andT ?_ | refine x_orT ?_ | refine x_and ?_ | refine x_or ?_ | refine x_not ?_ | refine x_if ?_
  | refine x_tup ?_ | refine x_lst ?_ | refine x_cel ?_ | refine x_dnew ?_ | refine x_sortIt ?_ | refine x_sl ?_ | refine x_noP ?_ | refine x_part ?_ | refine x_oI ?_ | refine x_mI ?_ | refine x_rng ?_ | refine x_yes ?_ | refine x_chn ?_ | refine x_fun ?_ | refine x_ok ?_)
local macro_rules | `(tactic| walk_at "x2") => `(tactic| first
  | ((with_reducible refine y_var ?_); refine ⟨_, rfl, ?_⟩)
  | ((with_reducible refine y_some ?_); refine ⟨_, rfl, ?_⟩)
  | ((with_reducible refine y_gP ?_); refine ⟨_, rfl, ?_⟩))
local macro_rules | `(tactic| walk_at "x") => `(tactic| repeat (first | walk_at "x1" | walk_at "x2" ))
local macro_rules | `(tactic| walk_at "nx") => `(tactic| (refine next_k (by assumption) (by assumption) (by first | decide | omega) (by first | decide | omega) ?_))
section
variable {t h : Hap} {ns : List Int} {P : D → Hap → Prop} {env : Env}
theorem pick_k {src : MI} {vs : List Nat} {g : MG} {e : ME} {N : Nat} {L : List Str} (hN : N ≤ 1000) (hsrc : Sat (src env h) fun q h1 => ∃ n : Nat, q = (rngL 0 n, fun _ => True) ∧ n ≤ N ∧ St t h1)
    (he : ∀ (i : Nat) h1, St t h1 → ∃ e1, g (.int (i : Int)) (wipeE env vs) h1 = some e1 ∧ ∀ R : D → Hap → Prop, (∀ y h2, y ∈ L → St t h2 → R (.str y) h2) → Sat (e e1 h1) R)
    (k : ∀ (ys : List Str) h2, ys.length ≤ N → (∀ y ∈ ys, y ∈ L) → St t h2 → P (.lst (ys.map .str)) h2) : Sat (mComp src vs g mYes e env h) P := by
  refine x_compI (fun pre post h1 acc => St t h1 ∧ ∃ ys : List Str, acc = ys.map D.str ∧ ys.length = pre.length ∧ ∀ y ∈ ys, y ∈ L) (hsrc.mono fun q h1 z => ?_)
  obtain ⟨n, rfl, hn, s1⟩ := z
  have lr : (rngL 0 n).length = n := by simp [rngL]
  refine ⟨⟨s1, [], rfl, rfl, fun y m => absurd m List.not_mem_nil⟩, fun _ _ _ _ _ _ => trivial, ?_, ?_⟩
  · rintro pre x post h2 acc hx ⟨s2, ys, rfl, ly, cy⟩
    obtain ⟨rfl, hk⟩ := rng28 hx
    obtain ⟨e1, ge, ek⟩ := he pre.length h2 s2
    refine ⟨e1, ge, x_yes ⟨fun _ => ⟨?_, ek _ fun y h3 my s3 => ⟨s3, ys ++ [y], by rw [List.map_append]; rfl, by rw [List.length_append, List.length_append, ly]; rfl, fun z mz => (List.mem_append.mp mz).elim (cy z) fun w => by rw [List.mem_singleton.mp w]; exact my⟩⟩, fun z => nomatch z⟩⟩
    rw [List.length_map, sizeLine_eq]
    omega
  · rintro h2 acc ⟨s2, ys, rfl, ly, cy⟩
    have ly : ys.length = (rngL 0 n).length := ly
    exact k ys h2 (by omega) cy s2
def tgD (r : R5) : D := .tup [.str r.1, .str r.2.1, .tup (r.2.2.1.map .str), .tup (r.2.2.2.1.map .str), .tup (r.2.2.2.2.map .str)]
/-- what the law's targets keep to -/
structure Tk (Ls : List Str) (Ts : List R5) : Prop where
  k : Ts.map (·.1) = Ls.take Ts.length
  hr : ∀ r ∈ Ts, r.2.2.1.length ≤ 4 ∧ r.2.2.2.1.length ≤ 2 ∧ r.2.2.2.2.length ≤ 3
  ok : ∀ r ∈ Ts, (1 ≤ r.1.length ∧ r.1.length ≤ 100) ∧ okS r.1 ∧ okS r.2.1 ∧ (∀ a ∈ r.2.2.1, okS a) ∧ (∀ a ∈ r.2.2.2.1, okS a) ∧ ∀ a ∈ r.2.2.2.2, okS a
  pre : ∀ i r, Ts[i]? = some r → ∀ y ∈ r.2.2.2.2, y ∈ Ls.take i
theorem Tk.snoc {Ls : List Str} {Ts : List R5} {r : R5} (T : Tk Ls Ts) (a : Ls[Ts.length]? = some r.1) (b : r.2.2.1.length ≤ 4 ∧ r.2.2.2.1.length ≤ 2 ∧ r.2.2.2.2.length ≤ 3) (o : (1 ≤ r.1.length ∧ r.1.length ≤ 100) ∧ okS r.1 ∧ okS r.2.1 ∧ (∀ a ∈ r.2.2.1, okS a) ∧ (∀ a ∈ r.2.2.2.1, okS a) ∧ ∀ a ∈ r.2.2.2.2, okS a) (c : ∀ y ∈ r.2.2.2.2, y ∈ Ls.take Ts.length) : Tk Ls (Ts ++ [r]) := by
  refine ⟨?_, fun x m => ?_, fun x m => ?_, fun i x e => ?_⟩
  · rw [List.map_append, T.k, List.length_append, List.length_singleton, List.take_succ, a]
    rfl
  · rcases List.mem_append.mp m with m | m
    · exact T.hr x m
    · rw [List.mem_singleton.mp m]; exact b
  · rcases List.mem_append.mp m with m | m
    · exact T.ok x m
    · rw [List.mem_singleton.mp m]; exact o
  · by_cases q : i < Ts.length
    · rw [List.getElem?_append_left q] at e
      exact T.pre i x e
    · rw [List.getElem?_append_right (by omega)] at e
      have : i - Ts.length = 0 := by
        refine Classical.byContradiction fun w => ?_
        rw [List.getElem?_eq_none (by simp; omega)] at e
        cases e
      rw [this] at e
      cases e
      have : i = Ts.length := by omega
      rw [this]
      exact c
theorem mid28 {t1 g : Hap} {c c' : Cel} : (t1 ++ [c] ++ g).set t1.length c' = t1 ++ [c'] ++ g := by
  rw [List.append_assoc, List.set_append_right _ _ (Nat.le_refl _), Nat.sub_self]
  simp
theorem mig28 {t1 g : Hap} {c : Cel} : (t1 ++ [c] ++ g)[t1.length]? = some c := by
  rw [List.append_assoc, List.getElem?_append_right (Nat.le_refl _), Nat.sub_self]
  rfl
theorem lenR28 {i : Nat} {d : D} {xs : List D} {P : List D × (Hap → Prop) → Hap → Prop} (e0 : env[i]? = some (some d)) (hq : getQ d h = some xs) (hs : ∀ z, d ≠ .str z) (hl : xs.length ≤ 1000) (p : P (rngL 0 xs.length, fun _ => True) h) : Sat (mRng rng1 (mCons (mCB dLen (mCons (mVar i) mNil)) mNil) env h) P := by
  have e : Sat (mCB dLen (mCons (mVar i) mNil) env h) fun d h1 => d = .int (xs.length : Int) ∧ h1 = h := by
    refine x_cb (x_cons (x_var e0 (x_nil (v_lenQ hq hs ?_))))
    exact ⟨rfl, rfl⟩
  with_reducible refine x_rng ?_
  with_reducible refine x_cons ?_
  refine e.mono fun d h1 z => ?_
  obtain ⟨rfl, rfl⟩ := z
  with_reducible refine x_nil ?_
  with_reducible refine x_rng1 (by omega) ?_
  rw [Int.toNat_natCast]
  exact p
theorem pk_ok : ∀ y ∈ (["x", "y", "f/z", "w"] : List Str), okS y := by decide +kernel
theorem law_targets_k {many : Int} (s : St t h) (hn : ns.length ≤ 63) (m0 : 0 ≤ many) (m1 : many ≤ 50)
    (k : ∀ (Ls : List Str) (Ts : List R5) (j : Nat) (g : Hap) h', Ls.Nodup ∧ (1 ≤ many → Ls ≠ []) → Ts.length = Ls.length → Ls.length ≤ 50 ∧ Ls.length ≤ many.toNat → Tk Ls Ts → St (t ++ g) h' → h'[j]? = some (.lst (Ts.map tgD)) → P (.ref j) h') : Sat (Mi.m_law_targets [.ref 0, scr ns, .int many] h) P := by
  unfold Mi.m_law_targets Mi.b_law_targets
  refine x_fun (s_seq (s_asg' (x_call (x_cons (x_var rfl (x_cons (x_var rfl (x_cons (x_var rfl (x_nil (labels_k s hn m0 m1 fun Ls h1 nL oLL lL s1 => ?_)))))))))))
  obtain ⟨oL, neL⟩ := oLL
  dsimp only
  refine s_seq (s_asg' (x_cel (x_nil ⟨sl_le (show 0 ≤ 16777216 by decide), ?_⟩)))
  rw [s1.len28]
  have s2 : St (t ++ [.lst (Ls.map .str)] ++ [.lst (([] : List R5).map tgD)]) (h1 ++ [Cel.lst []]) := s1.app28 (.lst (([] : List R5).map tgD))
  generalize h1 ++ [Cel.lst []] = h2 at s2 ⊢
  clear s1 h1
  obtain ⟨t1, et⟩ : ∃ t1, t1 = t ++ [Cel.lst (Ls.map .str)] := ⟨_, rfl⟩
  rw [← et] at s2 ⊢
  have gl : ∀ {cs : Hap} {h' : Hap}, St (t1 ++ cs) h' → h'[t.length + 1]? = some (.lst (Ls.map .str)) := fun s' => (s'.at28 t.length).trans (by rw [et, List.append_assoc, List.getElem?_append_right (Nat.le_refl _), Nat.sub_self]; rfl)
  have gv : ∀ {Ts : List R5} {g : Hap} {h' : Hap}, St (t1 ++ [.lst (Ts.map tgD)] ++ g) h' → h'[t1.length + 1]? = some (.lst (Ts.map tgD)) := fun s' => (s'.at28 t1.length).trans mig28
  have llm : Ls.length ≤ 50 := by omega
  dsimp only
  refine s_seq (s_forI (fun pre post e h' => ∃ (Ts : List R5) (g : Hap) (x5 x6 x7 x8 x9 x10 : Option D), e = [some (.ref 0), some (scr ns), some (.int many), some (.ref (t.length + 1)), some (.ref (t1.length + 1)), x5, x6, x7, x8, x9, x10] ∧ St (t1 ++ [.lst (Ts.map tgD)] ++ g) h' ∧ Ts.length = pre.length ∧ Tk Ls Ts) ?_)
  refine lenR28 rfl (gq28 (gl s2)) (fun z => by simp) (by rw [List.length_map]; omega) ?_
  rw [List.length_map]
  refine ⟨⟨[], [], _, _, _, _, _, _, rfl, by rw [List.append_nil]; exact s2, rfl, rfl, fun r m => absurd m List.not_mem_nil, fun r m => absurd m List.not_mem_nil, fun i r e => by simp at e⟩, fun _ _ _ _ _ _ => trivial, ?_, ?_⟩
  · rintro pre y post e h' hx ⟨Ts, g, x5, x6, x7, x8, x9, x10, rfl, s3, lT, T⟩
    obtain ⟨rfl, hk⟩ := rng28 hx
    have hk : pre.length < Ls.length := hk
    refine ⟨_, rfl, ?_⟩
    dsimp only
    refine s_seq (s_asg' (x_call (x_cons (x_var rfl (x_cons (x_var rfl (x_nil (tool_k s3 hn fun tool h4 ot s4 => ?_))))))))
    dsimp only
    refine s_seq (s_asg' (x_call (x_cons (x_var rfl (x_cons (x_var rfl (x_cons (x_var rfl (x_nil (args_k s4 hn fun as g2 h5 s5 la oa => ?_))))))))))
    dsimp only
    rw [List.append_assoc] at s5
    generalize g ++ g2 = g3 at s5
    refine s_seq (s_asg' (x_cb (x_cons (pick_k (t := t1 ++ [.lst (Ts.map tgD)] ++ g3) (N := 2) (L := ["x", "y", "f/z", "w"]) (by decide) ?_ (fun i h6 s6 => ⟨_, rfl, fun R kr => ?_⟩) fun so h6 lso oso s6 => ?_))))
    · exact x_rng (x_cons (x_call (x_cons (x_var rfl (x_cons (x_var rfl (x_cons (x_c (x_nil (next_k s5 hn (by decide) (by decide) fun r h6 r0 r1 s6 => x_nil (x_rng1 (by omega) ⟨_, rfl, by omega, s6⟩)))))))))))
    · refine x_bin (x_lst (x_cons (x_c (x_cons (x_c (x_cons (x_c (x_cons (x_c (x_nil ⟨sl_le (show 4 ≤ 16777216 by decide), x_call (x_cons (x_var rfl (x_cons (x_var rfl (x_cons (x_c (x_nil (next_k s6 hn (by decide) (by decide) fun r h7 r0 r1 s7 => ?_))))))))⟩))))))))))
      obtain ⟨z, -, mz, ez⟩ := str28 (L := ["x", "y", "f/z", "w"]) r0 r1
      exact ix28 (xs := (["x", "y", "f/z", "w"] : List Str).map .str) rfl ez (kr z h7 mz s7)
    · refine x_nil (x_some (d := .tup (so.map .str)) rfl ?_)
      dsimp only
      refine s_seq (s_asg' (x_tup (x_nil ⟨sl_le (show 0 ≤ 16777216 by decide), ?_⟩)))
      dsimp only
      have fin : ∀ {Q : Ps} (ne : List Str) (h7 : Hap) (x10 : Option D), St (t1 ++ [.lst (Ts.map tgD)] ++ g3) h7 → ne.length ≤ 3 → (∀ y ∈ ne, y ∈ Ls.take pre.length) → (∀ e h', (∃ (Ts : List R5) (g : Hap) (x5 x6 x7 x8 x9 x10 : Option D), e = [some (.ref 0), some (scr ns), some (.int many), some (.ref (t.length + 1)), some (.ref (t1.length + 1)), x5, x6, x7, x8, x9, x10] ∧ St (t1 ++ [.lst (Ts.map tgD)] ++ g) h' ∧ Ts.length = (pre ++ [D.int (pre.length : Int)]).length ∧ Tk Ls Ts) → Q.n e h') →
          SatS (mExp (mMet "list" gAppend (mVar 4) (mCons (mTup (mCons (mBin dIx (mVar 3) (mVar 5)) (mCons (mVar 6) (mCons (mVar 7) (mCons (mVar 8) (mCons (mVar 9) mNil)))))) mNil)) [some (.ref 0), some (scr ns), some (.int many), some (.ref (t.length + 1)), some (.ref (t1.length + 1)), some (.int (pre.length : Int)), some (.str tool), some (.tup (as.map .str)), some (.tup (so.map .str)), some (.tup (ne.map .str)), x10] h7) Q := fun ne h7 x10 s7 ln mn kq => by
        have el : Ls[pre.length]? = some Ls[pre.length] := List.getElem?_eq_getElem hk
        refine s_exp' (x_met (x_var rfl ⟨isl28 (gv s7), x_cons (x_tup (x_cons (x_bin (x_var rfl (x_var rfl (x_some (dix28 (gl (by rw [List.append_assoc] at s7; exact s7)) (by rw [List.getElem?_map, el]; rfl)) ?_))))))⟩))
        refine x_cons (x_var rfl (x_cons (x_var rfl (x_cons (x_var rfl (x_cons (x_var rfl (x_nil ⟨sl_le (show 5 ≤ 16777216 by decide), ?_⟩))))))))
        refine x_nil (v28_app (gv s7) (by rw [List.length_map]; omega) ?_)
        have s8 := s7.set28 t1.length (.lst ((Ts ++ [(Ls[pre.length], tool, as, so, ne)]).map tgD))
        rw [mid28] at s8
        have ea : Ts.map tgD ++ [tgD (Ls[pre.length], tool, as, so, ne)] = (Ts ++ [(Ls[pre.length], tool, as, so, ne)]).map tgD := by rw [List.map_append]; rfl
        refine kq _ _ ⟨Ts ++ [(Ls[pre.length], tool, as, so, ne)], g3, _, _, _, _, _, _, rfl, ?_, by rw [List.length_append, List.length_append, lT]; rfl, T.snoc (by rw [lT]; exact el) ⟨la, lso, ln⟩ ⟨(oL _ (List.getElem_mem hk)).2, (oL _ (List.getElem_mem hk)).1, ot, oa, fun a m => pk_ok a (oso a m), fun a m => (oL a (List.mem_of_mem_take (mn a m))).1⟩ (by rw [lT]; exact mn)⟩
        rw [← ea] at s8 ⊢
        exact s8
      refine s_seq (s_if' (x_tst (x_bin (x_var rfl (x_c (x_some (d := .bl (decide ((pre.length : Int) > 0))) rfl (x_oB ⟨fun z => ?_, fun _ => s_next (fin [] h6 _ s6 (by decide) (fun y m => absurd m List.not_mem_nil) fun _ _ q => q)⟩)))))))
      have z : (pre.length : Int) > 0 := of_decide_eq_true z
      refine s_asg' (x_cb (x_cons (pick_k (t := t1 ++ [.lst (Ts.map tgD)] ++ g3) (N := 3) (L := Ls.take pre.length) (by decide) ?_ (fun i h6 s6 => ⟨_, rfl, fun R kr => ?_⟩) fun ne h6 lne mne s6 => x_nil (x_some (d := .tup (ne.map .str)) rfl (fin ne h6 _ s6 lne mne fun _ _ q => q)))))
      · exact x_rng (x_cons (x_call (x_cons (x_var rfl (x_cons (x_var rfl (x_cons (x_c (x_nil (next_k s6 hn (by decide) (by decide) fun r h6 r0 r1 s6 => x_nil (x_rng1 (by omega) ⟨_, rfl, by omega, s6⟩)))))))))))
      · refine x_bin (x_var rfl (x_call (x_cons (x_var rfl (x_cons (x_var rfl (x_cons (x_var rfl (x_nil (next_k s6 hn z (by omega) fun r h7 r0 r1 s7 => ?_))))))))))
        obtain ⟨y, ey, -, ez⟩ := str28 (L := Ls) r0 (by omega)
        refine ix28 (gq28 (gl (by rw [List.append_assoc] at s7; exact s7))) ez (kr y h7 ?_ s7)
        rw [← List.getElem?_take_of_lt (show r.toNat < pre.length by omega)] at ey
        exact List.mem_of_getElem? ey
  · rintro e h' ⟨Ts, g, x5, x6, x7, x8, x9, x10, rfl, s3, lT, T⟩
    have lr : (rngL 0 Ls.length).length = Ls.length := by simp [rngL]
    have lT : Ts.length = (rngL 0 Ls.length).length := lT
    dsimp only
    refine s_ret' (x_var rfl (k Ls Ts _ ([.lst (Ls.map .str), .lst (Ts.map tgD)] ++ g) h' ⟨nL, neL⟩ (by omega) ⟨llm, lL⟩ T ?_ (gv s3)))
    rw [et] at s3
    simpa using s3
end
end Vi

set_option Elab.async false
set_option linter.all false
set_option autoImplicit false
set_option maxRecDepth 100000
set_option maxHeartbeats 2000000
namespace Vi
open PySem PySem.Spec PyProof.Rows L2
open scoped Classical
local macro_rules | `(tactic| walk_at "x1") => `(tactic| with_reducible first
  | refine x_bin ?_ | refine x_tst ?_ | refine x_oB ?_ | refine x_c ?_ | refine s_seqA ?_ | refine s_seqU ?_ | refine s_seqE ?_ | refine s_seqN ?_ | refine s_seqD ?_ | refine s_seqF ?_ | refine s_seqL ?_ | refine s_asg' ?_ | refine s_if' ?_ | refine s_ret' ?_ | refine s_exp' ?_ | refine s_next ?_ | refine s_retN' ?_ | refine s_sub' ?_ | refine s_dsub' ?_ | refine s_setF' ?_ | refine s_ddel' ?_
  | refine x_cb ?_ | refine x_cons ?_ | refine x_nil ?_ | refine x_call ?_ | refine x_met ?_ | refine x_meth ?_ | refine x_make ?_ | refine x_fld ?_ | refine x_un ?_ | refine x_notT ?_ | refine x_andT ?_ | refine x_orT ?_ | refine x_and ?_ | refine x_or ?_ | refine x_not ?_ | refine x_if ?_
  | refine x_tup ?_ | refine x_lst ?_ | refine x_cel ?_ | refine x_dnew ?_ | refine x_sortIt ?_ | refine x_sl ?_ | refine x_noP ?_ | refine x_part ?_ | refine x_oI ?_ | refine x_mI ?_ | refine x_rng ?_ | refine x_yes ?_ | refine x_chn ?_ | refine x_fun ?_ | refine x_ok ?_)
local macro_rules | `(tactic| walk_at "x2") => `(tactic| first
  | ((with_reducible refine y_var ?_); refine ⟨_, rfl, ?_⟩)
  | ((with_reducible refine y_some ?_); refine ⟨_, rfl, ?_⟩)
  | ((with_reducible refine y_gP ?_); refine ⟨_, rfl, ?_⟩))
local macro_rules | `(tactic| walk_at "x") => `(tactic| repeat (first | walk_at "x1" | walk_at "x2" ))
local macro_rules | `(tactic| walk_at "nx") => `(tactic| (refine next_k (by assumption) (by assumption) (by first | decide | omega) (by first | decide | omega) ?_))
section
variable {h : Hap} {P : D → Hap → Prop} {Ts : List R5} {j : Nat}
theorem add28 {xs ys : List D} (hl : xs.length + ys.length ≤ 1000) (k : P (.lst (xs ++ ys)) h) : Sat (ofO (dAdd (.lst xs) (.lst ys) h) h) P := x_some (if_pos (by rw [sizeLine_eq]; omega)) k
noncomputable def leG (a b : R5) : Bool := leK (rwG a) (rwG b)
theorem sort_G (A : List R5) : (A.map rwG).mergeSort leK = (A.mergeSort leG).map rwG := (PySem.W.sort_maps rwG fun _ _ _ _ => rfl).symm
theorem law_graph_k (hj : h[j]? = some (.lst (Ts.map tgD))) (hl : Ts.length ≤ 1000) (hr : ∀ r ∈ Ts, r.2.2.2.1.length ≤ 10 ∧ r.2.2.2.2.length ≤ 10) (k : ∀ c, P (.tup ((Ts.mergeSort leG).map rwG)) (h ++ [c])) : Sat (Mi.m_law_graph [.ref j] h) P := by
  unfold Mi.m_law_graph Mi.b_law_graph
  refine x_fun (s_seq (s_asg' (x_cel (x_nil ⟨sl_le (show 0 ≤ 16777216 by decide), ?_⟩))))
  dsimp only
  have jl : j < h.length := by
    refine Classical.byContradiction fun w => ?_
    rw [List.getElem?_eq_none (by omega)] at hj
    cases hj
  have gj : ∀ c, (h ++ [c])[j]? = some (.lst (Ts.map tgD)) := fun c => by rw [List.getElem?_append_left jl]; exact hj
  refine s_seq (s_forI (fun pre post e h' => ∃ (A B : List R5) (x2 x3 x4 x5 : Option D), Ts = A ++ B ∧ pre = A.map tgD ∧ post = B.map tgD ∧ e = [some (.ref j), some (.ref h.length), x2, x3, x4, x5] ∧ h' = h ++ [.lst (A.map rwG)]) ?_)
  refine x_mI (x_var rfl ⟨Ts.map tgD, sq28 (gj _), ⟨[], Ts, _, _, _, _, rfl, rfl, rfl, rfl, rfl⟩, ?_, ?_, ?_⟩)
  · rintro pre post e h' hx ⟨A, B, x2, x3, x4, x5, -, -, -, rfl, rfl⟩
    exact sq28 (gj _)
  · rintro pre y post e h' hx ⟨A, B, x2, x3, x4, x5, eT, rfl, eB, rfl, rfl⟩
    cases B with
    | nil => cases eB
    | cons r B =>
      injection eB with e1 e2
      subst e1 e2
      have mr : r ∈ Ts := by rw [eT]; simp
      obtain ⟨l1, l2⟩ := hr r mr
      refine ⟨_, rfl, ?_⟩
      dsimp only
      have i1 : ∀ {env : Env} {h : Hap}, env[2]? = some (some (tgD r)) → Sat (mI (mBin dIx (mVar 2) (mC (.int 3))) env h) fun s h1 => h1 = h ∧ s.1 = r.2.2.2.1.map D.str ∧ s.2 h := fun e2 => by
        refine x_items (dd := .tup (r.2.2.2.1.map .str)) rfl ?_
        refine x_bin (x_var e2 (x_c ?_))
        refine x_some (d := .tup (r.2.2.2.1.map .str)) rfl ?_
        exact ⟨rfl, rfl⟩
      have i2 : ∀ {env : Env} {h : Hap}, env[2]? = some (some (tgD r)) → Sat (mI (mBin dIx (mVar 2) (mC (.int 4))) env h) fun s h1 => h1 = h ∧ s.1 = r.2.2.2.2.map D.str ∧ s.2 h := fun e2 => by
        refine x_items (dd := .tup (r.2.2.2.2.map .str)) rfl ?_
        refine x_bin (x_var e2 (x_c ?_))
        refine x_some (d := .tup (r.2.2.2.2.map .str)) rfl ?_
        exact ⟨rfl, rfl⟩
      refine s_seq (s_asg' (x_bin ?_))
      refine x_compM (r.2.2.2.1.map .str) (fun d => .tup [.str "source", d]) (by rw [List.length_map, sizeLine_eq]; omega) (i1 rfl) (fun x _ => ⟨_, rfl, ?_⟩) ?_
      · refine x_tup (x_cons (x_c (x_cons (x_var rfl (x_nil ?_)))))
        exact ⟨sl_le (show 2 ≤ 16777216 by decide), rfl, rfl⟩
      refine x_compM (r.2.2.2.2.map .str) (fun d => .tup [.str "target", d]) (by rw [List.length_map, sizeLine_eq]; omega) (i2 rfl) (fun x _ => ⟨_, rfl, ?_⟩) ?_
      · refine x_tup (x_cons (x_c (x_cons (x_var rfl (x_nil ?_)))))
        exact ⟨sl_le (show 2 ≤ 16777216 by decide), rfl, rfl⟩
      refine add28 (by simp; omega) ?_
      have ei : (r.2.2.2.1.map D.str).map (fun d => D.tup [.str "source", d]) ++ (r.2.2.2.2.map D.str).map (fun d => D.tup [.str "target", d]) = inD r := by
        unfold inD
        rw [List.map_map, List.map_map]
        rfl
      rw [ei]
      dsimp only
      refine s_exp' (x_met (x_var rfl ⟨isl28 (ge1 _ _), x_cons (x_tup ?_)⟩))
      refine x_cons (x_bin (x_var rfl (x_c (x_some (d := .str r.1) rfl ?_))))
      refine x_cons (x_bin (x_var rfl (x_c (x_some (d := .str r.2.1) rfl ?_))))
      refine x_cons (x_bin (x_var rfl (x_c (x_some (d := .tup (r.2.2.1.map .str)) rfl ?_))))
      refine x_cons (x_cb (x_cons (x_var rfl (x_nil (x_some (d := .tup (inD r)) rfl ?_)))))
      refine x_nil ⟨sl_le (show 4 ≤ 16777216 by decide), ?_⟩
      refine x_nil (v28_app (ge1 _ _) (by rw [List.length_map]; have := congrArg List.length eT; rw [List.length_append] at this; omega) ?_)
      rw [se1]
      refine ⟨A ++ [r], B, _, _, _, _, by rw [eT]; simp, by rw [List.map_append]; rfl, rfl, rfl, ?_⟩
      rw [List.map_append]
      rfl
  · rintro e h' ⟨A, B, x2, x3, x4, x5, eT, eA, eB, rfl, rfl⟩
    have : B = [] := List.map_eq_nil_iff.mp eB.symm
    subst this
    rw [List.append_nil] at eT
    subst eT
    dsimp only
    refine s_ret' (x_cb (x_cons (x_cb (x_cons (x_var rfl (x_nil (x_some (d := .lst ((Ts.mergeSort leG).map rwG)) ?_ (x_nil (x_some (d := .tup ((Ts.mergeSort leG).map rwG)) rfl (k _))))))))))
    unfold dSortK0
    simp only []
    rw [gl28 (ge1 _ _), Option.bind_some, if_pos ⟨fun x m => by
      obtain ⟨r, _, rfl⟩ := List.mem_map.mp m
      exact ⟨_, _, rfl⟩, by rw [List.length_map]; exact sl_le (by omega)⟩, sort_G]
theorem mem_G {r : R5} : r ∈ Ts.mergeSort leG ↔ r ∈ Ts := List.mem_mergeSort
theorem perm_G : (Ts.mergeSort leG).Perm Ts := List.mergeSort_perm _ _
theorem Tk.keys {Ls : List Str} (T : Tk Ls Ts) (e : Ts.length = Ls.length) : Ts.map (·.1) = Ls := by
  rw [T.k, e, List.take_length]
end
end Vi

set_option Elab.async false
set_option linter.all false
set_option autoImplicit false
set_option maxRecDepth 100000
set_option maxHeartbeats 2000000
namespace Vi
open PySem PySem.Spec PyProof.Rows L2
open scoped Classical
local macro_rules | `(tactic| walk_at "x1") => `(tactic| with_reducible first
  | refine x_bin ?_ | refine x_tst ?_ | refine x_oB ?_ | refine x_c ?_ | refine s_seqA ?_ | refine s_seqU ?_ | refine s_seqE ?_ | refine s_seqN ?_ | refine s_asg' ?_ | refine s_if' ?_ | refine s_ret' ?_ | refine s_exp' ?_ | refine s_next ?_ | refine s_retN' ?_ | refine s_sub' ?_
  | refine x_cb ?_ | refine x_cons ?_ | refine x_nil ?_ | refine x_call ?_ | refine x_met ?_ | refine x_un ?_ | refine x_notT ?_ | refine x_andT ?_ | refine x_orT ?_ | refine x_and ?_ | refine x_or ?_ | refine x_not ?_ | refine x_if ?_
  | refine x_tup ?_ | refine x_lst ?_ | refine x_cel ?_ | refine x_sl ?_ | refine x_noP ?_ | refine x_part ?_ | refine x_oI ?_ | refine x_mI ?_ | refine x_rng ?_ | refine x_yes ?_ | refine x_chn ?_ | refine x_fun ?_ | refine x_ok ?_)
local macro_rules | `(tactic| walk_at "x2") => `(tactic| first
  | ((with_reducible refine y_var ?_); refine ⟨_, rfl, ?_⟩)
  | ((with_reducible refine y_some ?_); refine ⟨_, rfl, ?_⟩)
  | ((with_reducible refine y_gP ?_); refine ⟨_, rfl, ?_⟩))
local macro_rules | `(tactic| walk_at "x") => `(tactic| repeat (first | walk_at "x1" | walk_at "x2" ))
local macro_rules | `(tactic| walk_at "nx") => `(tactic| (refine next_k (by assumption) (by assumption) (by first | decide | omega) (by first | decide | omega) ?_))

/-! ### data without lists, and `_law_same` of it -/
mutual
def D.sz : D → Nat
  | .tup xs => D.szs xs + 1
  | _ => 0
def D.szs : List D → Nat
  | [] => 0
  | d :: ds => max d.sz (D.szs ds)
end
mutual
def D.pl : D → Bool
  | .non => true
  | .bl _ => true
  | .int _ => true
  | .str _ => true
  | .tup xs => decide (xs.length ≤ 1000000) && D.pls xs
  | _ => false
def D.pls : List D → Bool
  | [] => true
  | d :: ds => d.pl && D.pls ds
end
theorem pls_at : ∀ {xs : List D} {k : Nat} {x : D}, D.pls xs = true → xs[k]? = some x → x.pl = true
  | d :: ds, 0, x, h, e => by
    simp at e
    subst e
    rw [D.pls] at h
    exact (Bool.and_eq_true_iff.mp h).1
  | d :: ds, k + 1, x, h, e => by
    rw [D.pls] at h
    exact pls_at (Bool.and_eq_true_iff.mp h).2 (by simpa using e)
theorem szs_at : ∀ {xs : List D} {k : Nat} {x : D}, xs[k]? = some x → x.sz ≤ D.szs xs
  | d :: ds, 0, x, e => by
    simp at e
    subst e
    rw [D.szs]
    omega
  | d :: ds, k + 1, x, e => by
    have := szs_at (xs := ds) (k := k) (x := x) (by simpa using e)
    rw [D.szs]
    omega
theorem at_nat {xs : List D} {k : Nat} {x : D} (e : xs[k]? = some x) : atI xs (0 + (k : Int)) = some x := by
  have hk := (List.getElem?_eq_some_iff.mp e).1
  obtain ⟨y, e1, _, e2⟩ := atI_ok (xs := xs) (i := 0 + (k : Int)) (by omega) (by omega)
  rw [e1, ← e2, ← e]
  congr 1
  omega
theorem same_all : ∀ (n : Nat) (a b : D) (h : Hap), b.sz < n → a.pl = true → b.pl = true → Sat (Mi.mm_law_same n [a, b] h) fun d h' => d = .bl (decide (a = b)) ∧ h' = h
  | 0, _, _, _, hn, _, _ => absurd hn (by omega)
  | n + 1, a, b, h, hn, ha, hb => by
    have tyA : ∃ t, tyD a h = some t := by
      cases a <;> first | exact ⟨_, rfl⟩ | (simp [D.pl] at ha)
    obtain ⟨ta, hta⟩ := tyA
    unfold Mi.mm_law_same Mi.b_law_same
    have isi : ∀ (T : String) (hT : T ∈ clNs) {P : D → Hap → Prop}, P (.bl (isiB ta T)) h → Sat (ofO (dIsi [a, .ty T] h) h) P := fun T hT P p => x_some (by
      show (if T ∈ clNs then (tyD a h).map (fun t => D.bl (isiB t T)) else none) = _
      rw [if_pos hT, hta]
      rfl) p
    cases b with
    | lst | klst | ref | ty => simp [D.pl] at hb
    | non =>
      walk_at "x"
      refine s_seq ?_
      walk_at "x"
      refine ⟨fun _ => ?_, fun e => nomatch e⟩
      walk_at "x"
      refine ⟨?_, rfl⟩
      cases a <;> simp [isN]
    | bl b =>
      walk_at "x"
      refine s_seq ?_
      walk_at "x"
      refine ⟨fun e => (nomatch e), fun _ => ?_⟩
      refine s_seq ?_
      walk_at "x"
      walk_at "x"
      refine ⟨fun e => (nomatch e), fun _ => ?_⟩
      refine s_seq ?_
      walk_at "x"
      walk_at "x"
      refine ⟨fun _ => ?_, fun e => nomatch e⟩
      walk_at "x"
      refine isi "bool" (by decide) ?_
      refine ⟨_, rfl, fun e => ?_, fun e => ?_⟩
      · walk_at "x"
        cases a <;> (first | (simp [D.pl] at ha; done) | skip) <;> simp [tyD] at hta <;> subst hta <;> first | exact absurd e (by decide) | skip
        next b' => exact x_some (d := .bl (decide (b' = b))) rfl ⟨by simp, rfl⟩
      · refine ⟨?_, rfl⟩
        cases a <;> (first | (simp [D.pl] at ha; done) | skip) <;> simp [tyD] at hta <;> subst hta <;> first | exact absurd e (by decide) | simp
    | int b =>
      walk_at "x"
      refine s_seq ?_
      walk_at "x"
      refine ⟨fun e => (nomatch e), fun _ => ?_⟩
      refine s_seq ?_
      walk_at "x"
      walk_at "x"
      refine ⟨fun e => (nomatch e), fun _ => ?_⟩
      refine s_seq ?_
      walk_at "x"
      walk_at "x"
      refine ⟨fun e => (nomatch e), fun _ => ?_⟩
      refine s_seq ?_
      walk_at "x"
      walk_at "x"
      refine ⟨fun _ => ?_, fun e => nomatch e⟩
      walk_at "x"
      refine isi "int" (by decide) ?_
      refine ⟨_, rfl, fun e => ?_, fun e => ?_⟩
      · walk_at "x"
        refine isi "bool" (by decide) ?_
        refine ⟨_, rfl, ?_⟩
        refine ⟨_, rfl, fun e2 => ?_, fun e2 => ?_⟩
        · walk_at "x"
          cases a <;> (first | (simp [D.pl] at ha; done) | skip) <;> simp [tyD] at hta <;> subst hta <;> first | exact absurd e (by decide) | exact absurd e2 (by decide) | skip
          next b' => exact x_some (d := .bl (decide (b' = b))) rfl ⟨by simp, rfl⟩
        · refine ⟨?_, rfl⟩
          cases a <;> (first | (simp [D.pl] at ha; done) | skip) <;> simp [tyD] at hta <;> subst hta <;> first | exact absurd e2 (by decide) | simp
      · refine ⟨?_, rfl⟩
        cases a <;> (first | (simp [D.pl] at ha; done) | skip) <;> simp [tyD] at hta <;> subst hta <;> first | exact absurd e (by decide) | simp
    | str b =>
      walk_at "x"
      refine s_seq ?_
      walk_at "x"
      refine ⟨fun e => (nomatch e), fun _ => ?_⟩
      refine s_seq ?_
      walk_at "x"
      walk_at "x"
      refine ⟨fun e => (nomatch e), fun _ => ?_⟩
      refine s_seq ?_
      walk_at "x"
      walk_at "x"
      refine ⟨fun e => (nomatch e), fun _ => ?_⟩
      refine s_seq ?_
      walk_at "x"
      walk_at "x"
      refine ⟨fun e => (nomatch e), fun _ => ?_⟩
      walk_at "x"
      refine isi "str" (by decide) ?_
      refine ⟨_, rfl, fun e => ?_, fun e => ?_⟩
      · walk_at "x"
        cases a <;> (first | (simp [D.pl] at ha; done) | skip) <;> simp [tyD] at hta <;> subst hta <;> first | exact absurd e (by decide) | skip
        next b' => exact x_some (d := .bl (decide (b' = b))) rfl ⟨by simp, rfl⟩
      · refine ⟨?_, rfl⟩
        cases a <;> (first | (simp [D.pl] at ha; done) | skip) <;> simp [tyD] at hta <;> subst hta <;> first | exact absurd e (by decide) | simp
    | tup ys =>
      walk_at "x"
      refine s_seq ?_
      walk_at "x"
      refine ⟨fun e => (nomatch e), fun _ => ?_⟩
      refine s_seq ?_
      walk_at "x"
      walk_at "x"
      refine ⟨fun _ => ?_, fun e => nomatch e⟩
      refine s_seq ?_
      walk_at "x"
      refine isi "tuple" (by decide) ?_
      walk_at "x"
      refine ⟨fun e => ?_, fun e => ?_⟩
      · refine ⟨fun _ => ?_, ?_⟩; rotate_left; (intro e; cases e)
        walk_at "x"
        refine ⟨?_, rfl⟩
        cases a <;> (first | (simp [D.pl] at ha; done) | skip) <;> simp [tyD] at hta <;> subst hta <;> first | exact absurd e (by decide) | simp
      · have hx : ∃ xs, a = .tup xs := by
          cases a <;> (first | (simp [D.pl] at ha; done) | skip) <;> simp [tyD] at hta <;> subst hta <;> first | exact absurd e (by decide) | exact ⟨_, rfl⟩
        obtain ⟨xs, rfl⟩ := hx
        clear isi hta
        rw [D.pl, Bool.and_eq_true_iff] at ha hb
        have hl : ys.length ≤ 1000000 := decide_eq_true_iff.mp hb.1
        walk_at "x"
        refine ⟨fun e2 => ?_, fun e2 => ?_⟩
        · walk_at "x"
          refine ⟨?_, rfl⟩
          have ne : xs.length ≠ ys.length := by
            have := of_decide_eq_true (p := (xs.length : Int) ≠ ys.length) (by simpa using e2)
            omega
          have : D.tup xs ≠ D.tup ys := fun z => ne (by rw [D.tup.inj z])
          simp [this]
        have el : xs.length = ys.length := by
          have := of_decide_eq_true (p := (xs.length : Int) = ys.length) (by simpa using e2)
          omega
        walk_at "x"
        dsimp only
        skip
        with_reducible refine s_seq ?_
        with_reducible refine s_forI (fun pre post e h' => h' = h ∧ (∃ z, e = [some (.tup xs), some (.tup ys), z]) ∧ pre.length + post.length = ys.length ∧ ∀ k, k < pre.length → xs[k]? = ys[k]?) ?_
        have go : ∀ {P : List D × (Hap → Prop) → Hap → Prop}, P (rngL 0 (ys.length : Int).toNat, fun _ => True) h → Sat (mRng rng1 (mCons (mCB dLen (mCons (mVar 1) mNil)) mNil) (env0 3 [.tup xs, .tup ys]) h) P := by
          intro P p
          have hl2 := hl
          clear hl ha hb hn el e2
          generalize hq : (ys.length : Int) = q at p
          have q0 : (0 : Int) ≤ q ∧ q ≤ 1000000 := ⟨by omega, by omega⟩
          have dl : dLen [.tup ys] h = some (.int q) := by
            rw [← hq]
            rfl
          with_reducible refine x_rng ?_
          with_reducible refine x_cons ?_
          with_reducible refine x_cb ?_
          with_reducible refine x_cons ?_
          with_reducible refine y_var ?_
          refine ⟨_, rfl, ?_⟩
          with_reducible refine x_nil ?_
          with_reducible refine x_some dl ?_
          with_reducible refine x_nil ?_
          with_reducible exact x_rng1 (by omega) p
        have lr : (rngL 0 (ys.length : Int).toNat).length = ys.length := by simp [rngL]
        with_reducible refine go ?_
        refine ⟨⟨rfl, ⟨_, rfl⟩, by rw [List.length_nil, lr]; omega, fun k hk => absurd hk (by simp)⟩, fun _ _ _ _ _ _ => trivial, ?_, ?_⟩
        · rintro pre x post e h2 hx ⟨rfl, ⟨z, rfl⟩, hlen, hk⟩
          rw [List.length_cons] at hlen
          have hp : pre.length < ys.length := by omega
          have ex : x = .int (0 + (pre.length : Int)) := by
            have hx2 : rngL 0 (ys.length : Int).toNat = pre ++ x :: post := hx
            have q : (rngL 0 (ys.length : Int).toNat)[pre.length]? = some x := by rw [hx2]; simp
            have q2 : (rngL 0 (ys.length : Int).toNat)[pre.length]? = some (.int (0 + (pre.length : Int))) := by simp [rngL, hp]
            exact Option.some.inj (q.symm.trans q2)
          subst ex
          obtain ⟨u, hu⟩ : ∃ u, xs[pre.length]? = some u := ⟨_, List.getElem?_eq_getElem (by omega)⟩
          obtain ⟨v, hv⟩ : ∃ v, ys[pre.length]? = some v := ⟨_, List.getElem?_eq_getElem hp⟩
          refine ⟨_, rfl, ?_⟩
          walk_at "x"
          refine x_some (d := u) (at_nat hu) ?_
          walk_at "x"
          refine x_some (d := v) (at_nat hv) ?_
          walk_at "x"
          have sv := szs_at hv
          have hsz : (D.tup ys).sz = D.szs ys + 1 := by simp [D.sz]
          refine (same_all n u v h2 (by omega) (pls_at ha.2 hu) (pls_at hb.2 hv)).mono fun d h3 z => ?_
          obtain ⟨rfl, rfl⟩ := z
          walk_at "x"
          refine ⟨fun e3 => ?_, fun e3 => ?_⟩
          · walk_at "x"
            have ne : u ≠ v := by simpa using e3
            refine ⟨?_, rfl⟩
            have : D.tup xs ≠ D.tup ys := fun z => ne (by
              rw [D.tup.inj z] at hu
              rw [hu] at hv
              exact Option.some.inj hv)
            simp [this]
          · have eq : u = v := by simpa using e3
            refine ⟨rfl, ⟨_, rfl⟩, by rw [List.length_append, List.length_singleton]; omega, fun k hk2 => ?_⟩
            rw [List.length_append, List.length_singleton] at hk2
            by_cases hkk : k < pre.length
            · exact hk k hkk
            · have : k = pre.length := by omega
              rw [this, hu, hv, eq]
        · rintro e h2 ⟨rfl, ⟨z, rfl⟩, _, hk⟩
          walk_at "x"
          refine ⟨?_, rfl⟩
          have : xs = ys := List.ext_getElem? fun k => by
            by_cases hk2 : k < ys.length
            · exact hk k (by rw [lr]; exact hk2)
            · rw [List.getElem?_eq_none (by omega), List.getElem?_eq_none (by omega)]
          rw [this]
          simp
theorem same_k {a b : D} {h : Hap} {P : D → Hap → Prop} (hs : b.sz < 12) (ha : a.pl = true) (hb : b.pl = true) (k : P (.bl (decide (a = b))) h) : Sat (Mi.m_law_same [a, b] h) P :=
  (same_all 12 a b h hs ha hb).mono fun d h' ⟨e1, e2⟩ => by
    subst e1 e2
    exact k
end Vi

set_option Elab.async false
set_option linter.all false
set_option autoImplicit false
set_option maxRecDepth 100000
set_option maxHeartbeats 2000000
namespace Vi
open PySem PySem.Spec PyProof.Rows L2
open scoped Classical
local macro_rules | `(tactic| walk_at "x1") => `(tactic| with_reducible first
  | refine x_bin ?_ | refine x_tst ?_ | refine x_oB ?_ | refine x_c ?_ | refine s_seqA ?_ | refine s_seqU ?_ | refine s_seqE ?_ | refine s_seqN ?_ | refine s_seqD ?_ | refine s_seqF ?_ | refine s_seqL ?_ | refine s_asg' ?_ | refine s_if' ?_ | refine s_ret' ?_ | refine s_exp' ?_ | refine s_next ?_ | refine s_retN' ?_ | refine s_sub' ?_ | refine s_dsub' ?_ | refine s_setF' ?_ | refine s_ddel' ?_
  | refine x_cb ?_ | refine x_cons ?_ | refine x_nil ?_ | refine x_call ?_ | refine x_met ?_ | refine x_meth ?_ | refine x_make ?_ | refine x_fld ?_ | refine x_un ?_ | refine x_notT ?_ | refine x_andT ?_ | refine x_orT ?_ | refine x_and ?_ | refine x_or ?_ | refine x_not ?_ | refine x_if ?_
  | refine x_tup ?_ | refine x_lst ?_ | refine x_cel ?_ | refine x_dnew ?_ | refine x_sortIt ?_ | refine x_sl ?_ | refine x_noP ?_ | refine x_part ?_ | refine x_oI ?_ | refine x_mI ?_ | refine x_rng ?_ | refine x_yes ?_ | refine x_chn ?_ | refine x_fun ?_ | refine x_ok ?_)
local macro_rules | `(tactic| walk_at "x2") => `(tactic| first
  | ((with_reducible refine y_var ?_); refine ⟨_, rfl, ?_⟩)
  | ((with_reducible refine y_some ?_); refine ⟨_, rfl, ?_⟩)
  | ((with_reducible refine y_gP ?_); refine ⟨_, rfl, ?_⟩))
local macro_rules | `(tactic| walk_at "x") => `(tactic| repeat (first | walk_at "x1" | walk_at "x2" ))
local macro_rules | `(tactic| walk_at "nx") => `(tactic| (refine next_k (by assumption) (by assumption) (by first | decide | omega) (by first | decide | omega) ?_))
section
variable {h : Hap} {P : D → Hap → Prop} {env : Env} {G : List R5} {S : List Str}
theorem pl_strs : ∀ (xs : List Str), D.pls (xs.map .str) = true ∧ D.szs (xs.map .str) = 0
  | [] => ⟨rfl, by simp [D.szs]⟩
  | x :: xs => by
    obtain ⟨a, b⟩ := pl_strs xs
    rw [List.map_cons, D.pls, D.szs, a, b]
    exact ⟨rfl, by simp [D.sz]⟩
theorem pl_tupS {xs : List Str} (l : xs.length ≤ 1000) : (D.tup (xs.map .str)).pl = true ∧ (D.tup (xs.map .str)).sz = 1 := by
  obtain ⟨a, b⟩ := pl_strs xs
  refine ⟨?_, by rw [D.sz, b]⟩
  simp only [D.pl, a, Bool.and_true, List.length_map]
  exact decide_eq_true (by omega)
theorem pl_inp (k : Str) : ∀ (xs : List Str), D.pls (xs.map fun p => D.tup [.str k, .str p]) = true ∧ D.szs (xs.map fun p => D.tup [.str k, .str p]) ≤ 1
  | [] => ⟨rfl, by simp [D.szs]⟩
  | x :: xs => by
    obtain ⟨a, b⟩ := pl_inp k xs
    rw [List.map_cons, D.pls, D.szs, a]
    refine ⟨?_, ?_⟩
    · simp only [D.pl, D.pls, Bool.and_true, List.length_cons, List.length_nil]
      exact decide_eq_true (by omega)
    · simp only [D.sz, D.szs]
      omega
theorem pls_app : ∀ (xs ys : List D), D.pls (xs ++ ys) = (D.pls xs && D.pls ys) ∧ D.szs (xs ++ ys) = max (D.szs xs) (D.szs ys)
  | [], ys => ⟨rfl, by simp [D.szs]⟩
  | x :: xs, ys => by
    obtain ⟨a, b⟩ := pls_app xs ys
    rw [List.cons_append, D.pls, D.szs, a, b, D.pls, D.szs]
    exact ⟨(Bool.and_assoc _ _ _).symm, by omega⟩
theorem pl_rw {r : R5} (h1 : r.2.2.1.length ≤ 1000) (h2 : (inD r).length ≤ 1000) : (rwG r).pl = true ∧ (rwG r).sz ≤ 3 := by
  obtain ⟨a, b⟩ := pl_tupS h1
  obtain ⟨c, d⟩ := pl_inp "source" r.2.2.2.1
  obtain ⟨e, f⟩ := pl_inp "target" r.2.2.2.2
  have i1 : (D.tup (inD r)).pl = true := by
    rw [D.pl, decide_eq_true (by omega)]
    unfold inD
    rw [(pls_app _ _).1, c, e]
    rfl
  have i2 : (D.tup (inD r)).sz ≤ 2 := by
    rw [D.sz]
    unfold inD
    rw [(pls_app _ _).2]
    omega
  unfold rwG
  rw [D.sz] at i2 b
  refine ⟨?_, ?_⟩
  · rw [D.pl, D.pls, D.pls, D.pls, D.pls, D.pls, a, i1]
    rfl
  · rw [D.sz, D.szs, D.szs, D.szs, D.szs, D.szs]
    simp only [D.sz]
    omega
theorem pl_rws : ∀ {A : List R5}, (∀ r ∈ A, r.2.2.1.length ≤ 1000 ∧ (inD r).length ≤ 1000) → D.pls (A.map rwG) = true ∧ D.szs (A.map rwG) ≤ 3
  | [], _ => ⟨rfl, by simp [D.szs]⟩
  | r :: A, k => by
    obtain ⟨a, b⟩ := pl_rws (A := A) fun q m => k q (List.mem_cons_of_mem _ m)
    obtain ⟨c, d⟩ := pl_rw (k r List.mem_cons_self).1 (k r List.mem_cons_self).2
    rw [List.map_cons, D.pls, D.szs, a, c]
    exact ⟨rfl, by omega⟩
theorem pl_tupG {A : List R5} (l : A.length ≤ 1000) (k : ∀ r ∈ A, r.2.2.1.length ≤ 1000 ∧ (inD r).length ≤ 1000) : (D.tup (A.map rwG)).pl = true ∧ (D.tup (A.map rwG)).sz < 12 := by
  obtain ⟨a, b⟩ := pl_rws k
  refine ⟨?_, by rw [D.sz]; omega⟩
  simp only [D.pl, a, Bool.and_true, List.length_map]
  exact decide_eq_true (by omega)
theorem sa28 {d : D} (a : d.pl = true ∧ d.sz < 12) (k : P (.bl true) h) : Sat (Mi.m_law_same [d, d] h) P := same_k a.2 a.1 a.1 (by rw [decide_eq_true rfl]; exact k)
/-- within the keys -/
theorem rc_cap (g : Gk G) {x : Str} (r : Rc (nbs (NG G)) S x) (m : x ∈ G.map (·.1)) : Rc (nbs (NG G)) (S.filter fun s => decide (s ∈ G.map (·.1))) x := by
  induction r with
  | base ms => exact .base (List.mem_filter.mpr ⟨ms, decide_eq_true m⟩)
  | step r my ih =>
    refine .step (ih (Classical.byContradiction fun z => ?_)) my
    rw [← g.ks] at z
    rw [nbs_none z] at my
    exact absurd my List.not_mem_nil
theorem rcB_cap (g : Gk G) {x : Str} {F : List Str} (mF : ∀ x, x ∈ F ↔ Rc (nbs (NG G)) (S.filter fun s => decide (s ∈ G.map (·.1))) x) (m : x ∈ G.map (·.1)) : rcB (nbs (NG G)) S x = decide (x ∈ F) := by
  unfold rcB
  rw [decide_eq_decide, mF]
  exact ⟨fun r => rc_cap g r m, fun r => rc_mono (fun s ms => (List.mem_filter.mp ms).1) r⟩
theorem lay_s : ∀ {xs : List Str}, (∀ x ∈ xs, okS x) → ∃ ps, D.pys (xs.map .str) = some ps ∧ PyData.canLayAll0 ps = true ∧ PyData.depthAll ps ≤ 1
  | [], _ => ⟨[], rfl, rfl, by simp [PyData.depthAll]⟩
  | n :: xs, o => by
    obtain ⟨ps, e1, e2, e3⟩ := lay_s (xs := xs) fun x m => o x (List.mem_cons_of_mem _ m)
    have os : PyData.strOk n = true := o n List.mem_cons_self
    refine ⟨.str n :: ps, by rw [List.map_cons, D.pys, e1]; rfl, ?_, ?_⟩
    · simp [PyData.canLayAll0, PyData.canLay0, os, e2]
    · simp [PyData.depthAll, PyData.depth, e3]
end
end Vi

set_option Elab.async false
set_option linter.all false
set_option autoImplicit false
set_option maxRecDepth 100000
set_option maxHeartbeats 2000000
namespace Vi
open PySem PySem.Spec PyProof.Rows L2
open scoped Classical
local macro_rules | `(tactic| walk_at "x1") => `(tactic| with_reducible first
  | refine x_bin ?_ | refine x_tst ?_ | refine x_oB ?_ | refine x_c ?_ | refine s_seqA ?_ | refine s_seqU ?_ | refine s_seqE ?_ | refine s_seqN ?_ | refine s_seqD ?_ | refine s_seqF ?_ | refine s_seqL ?_ | refine s_asg' ?_ | refine s_if' ?_ | refine s_ret' ?_ | refine s_exp' ?_ | refine s_next ?_ | refine s_retN' ?_ | refine s_sub' ?_ | refine s_dsub' ?_ | refine s_setF' ?_ | refine s_ddel' ?_
  | refine x_cb ?_ | refine x_cons ?_ | refine x_nil ?_ | refine x_call ?_ | refine x_met ?_ | refine x_meth ?_ | refine x_make ?_ | refine x_fld ?_ | refine x_un ?_ | refine x_notT ?_ | refine x_andT ?_ | refine x_orT ?_ | refine x_and ?_ | refine x_or ?_ | refine x_not ?_ | refine x_if ?_
  | refine x_tup ?_ | refine x_lst ?_ | refine x_cel ?_ | refine x_dnew ?_ | refine x_sortIt ?_ | refine x_sl ?_ | refine x_noP ?_ | refine x_part ?_ | refine x_oI ?_ | refine x_mI ?_ | refine x_rng ?_ | refine x_yes ?_ | refine x_chn ?_ | refine x_fun ?_ | refine x_ok ?_)
local macro_rules | `(tactic| walk_at "x2") => `(tactic| first
  | ((with_reducible refine y_var ?_); refine ⟨_, rfl, ?_⟩)
  | ((with_reducible refine y_some ?_); refine ⟨_, rfl, ?_⟩)
  | ((with_reducible refine y_gP ?_); refine ⟨_, rfl, ?_⟩))
local macro_rules | `(tactic| walk_at "x") => `(tactic| repeat (first | walk_at "x1" | walk_at "x2" ))
local macro_rules | `(tactic| walk_at "nx") => `(tactic| (refine next_k (by assumption) (by assumption) (by first | decide | omega) (by first | decide | omega) ?_))
section
variable {h : Hap} {P : D → Hap → Prop} {env : Env} {G : List R5} {S X : List Str} {r : R5}
theorem x_gt0 {m : ME} {xs : List D} {P : Bool → Hap → Prop} (s : Sat (m env h) fun d h1 => ∃ xs, d = .lst xs ∧ P (decide (xs.length > 0)) h1) : Sat (mTst (mBin dGt (mCB dLen (mCons m mNil)) (mC (.int 0))) env h) P := by
  refine x_tst (x_bin (x_cb (x_cons (s.mono fun d h1 z => ?_))))
  obtain ⟨xs, rfl, p⟩ := z
  refine x_nil (v_lenQ (xs := xs) rfl (fun z => by simp) (x_c ?_))
  refine x_some (d := .bl (decide ((xs.length : Int) > 0))) rfl ?_
  have : decide ((xs.length : Int) > 0) = decide (xs.length > 0) := by rw [decide_eq_decide]; omega
  rw [this]
  exact x_oB p
end
end Vi

set_option Elab.async false
set_option linter.all false
set_option autoImplicit false
set_option maxRecDepth 100000
set_option maxHeartbeats 2000000
namespace Vi
open PySem PySem.Spec PyProof.Rows L2
open scoped Classical
local macro_rules | `(tactic| walk_at "x1") => `(tactic| with_reducible first
  | refine x_bin ?_ | refine x_tst ?_ | refine x_oB ?_ | refine x_c ?_ | refine s_seqA ?_ | refine s_seqU ?_ | refine s_seqE ?_ | refine s_seqN ?_ | refine s_seqD ?_ | refine s_seqF ?_ | refine s_seqL ?_ | refine s_asg' ?_ | refine s_if' ?_ | refine s_ret' ?_ | refine s_exp' ?_ | refine s_next ?_ | refine s_retN' ?_ | refine s_sub' ?_ | refine s_dsub' ?_ | refine s_setF' ?_ | refine s_ddel' ?_
  | refine x_cb ?_ | refine x_cons ?_ | refine x_nil ?_ | refine x_call ?_ | refine x_met ?_ | refine x_meth ?_ | refine x_make ?_ | refine x_fld ?_ | refine x_un ?_ | refine x_notT ?_ | refine x_andT ?_ | refine x_orT ?_ | refine x_and ?_ | refine x_or ?_ | refine x_not ?_ | refine x_if ?_
  | refine x_tup ?_ | refine x_lst ?_ | refine x_cel ?_ | refine x_dnew ?_ | refine x_sortIt ?_ | refine x_sl ?_ | refine x_noP ?_ | refine x_part ?_ | refine x_oI ?_ | refine x_mI ?_ | refine x_rng ?_ | refine x_yes ?_ | refine x_chn ?_ | refine x_fun ?_ | refine x_ok ?_)
local macro_rules | `(tactic| walk_at "x2") => `(tactic| first
  | ((with_reducible refine y_var ?_); refine ⟨_, rfl, ?_⟩)
  | ((with_reducible refine y_some ?_); refine ⟨_, rfl, ?_⟩)
  | ((with_reducible refine y_gP ?_); refine ⟨_, rfl, ?_⟩))
local macro_rules | `(tactic| walk_at "x") => `(tactic| repeat (first | walk_at "x1" | walk_at "x2" ))
local macro_rules | `(tactic| walk_at "nx") => `(tactic| (refine next_k (by assumption) (by assumption) (by first | decide | omega) (by first | decide | omega) ?_))
section
variable {h : Hap} {P : D → Hap → Prop} {env : Env} {G : List R5} {S Pt X : List Str} {ns : List Int} {r : R5}
def kd (r : R5) : D := .str r.1
def fk (f : R5 → Bool) (A : List R5) : List Str := (A.filter f).map (·.1)
theorem fk_snoc (f : R5 → Bool) (A : List R5) (r : R5) : fk f (A ++ [r]) = if f r = true then fk f A ++ [r.1] else fk f A := by
  unfold fk
  rw [List.filter_append, List.map_append]
  split
  · next e => rw [List.filter_cons_of_pos e]; rfl
  · next e => rw [List.filter_cons_of_neg e]; simp
theorem fk_len (f : R5 → Bool) (A : List R5) : (fk f A).length ≤ A.length := by
  unfold fk
  rw [List.length_map]
  exact List.length_filter_le _ _
theorem app_at {g : Hap} {i : Nat} {c0 : Cel} (e : h[i]? = some c0) : (h ++ g)[i]? = some c0 := (List.getElem?_append_left (List.getElem?_eq_some_iff.mp e).1).trans e
end
end Vi

set_option Elab.async false
set_option linter.all false
set_option autoImplicit false
set_option maxRecDepth 100000
set_option maxHeartbeats 2000000
namespace Vi
open PySem PySem.Spec PyProof.Rows L2
open scoped Classical
local macro_rules | `(tactic| walk_at "x1") => `(tactic| with_reducible first
  | refine x_bin ?_ | refine x_tst ?_ | refine x_oB ?_ | refine x_c ?_ | refine s_seqA ?_ | refine s_seqU ?_ | refine s_seqE ?_ | refine s_seqN ?_ | refine s_seqD ?_ | refine s_seqF ?_ | refine s_seqL ?_ | refine s_asg' ?_ | refine s_if' ?_ | refine s_ret' ?_ | refine s_exp' ?_ | refine s_next ?_ | refine s_retN' ?_ | refine s_sub' ?_ | refine s_dsub' ?_ | refine s_setF' ?_ | refine s_ddel' ?_
  | refine x_cb ?_ | refine x_cons ?_ | refine x_nil ?_ | refine x_call ?_ | refine x_met ?_ | refine x_meth ?_ | refine x_make ?_ | refine x_fld ?_ | refine x_un ?_ | refine x_notT ?_ | refine x_andT ?_ | refine x_orT ?_ | refine x_and ?_ | refine x_or ?_ | refine x_not ?_ | refine x_if ?_
  | refine x_tup ?_ | refine x_lst ?_ | refine x_cel ?_ | refine x_dnew ?_ | refine x_sortIt ?_ | refine x_sl ?_ | refine x_noP ?_ | refine x_part ?_ | refine x_oI ?_ | refine x_mI ?_ | refine x_rng ?_ | refine x_yes ?_ | refine x_chn ?_ | refine x_fun ?_ | refine x_ok ?_)
local macro_rules | `(tactic| walk_at "x2") => `(tactic| first
  | ((with_reducible refine y_var ?_); refine ⟨_, rfl, ?_⟩)
  | ((with_reducible refine y_some ?_); refine ⟨_, rfl, ?_⟩)
  | ((with_reducible refine y_gP ?_); refine ⟨_, rfl, ?_⟩))
local macro_rules | `(tactic| walk_at "x") => `(tactic| repeat (first | walk_at "x1" | walk_at "x2" ))
local macro_rules | `(tactic| walk_at "nx") => `(tactic| (refine next_k (by assumption) (by assumption) (by first | decide | omega) (by first | decide | omega) ?_))
/-! ### sorted labels, and the fault of targets -/
def srtS (xs : List Str) : List Str := xs.mergeSort le28
theorem srt_mem {xs : List Str} {x : Str} : x ∈ srtS xs ↔ x ∈ xs := List.mem_mergeSort
theorem srt_perm (xs : List Str) : (srtS xs).Perm xs := List.mergeSort_perm _ _
theorem srt_len (xs : List Str) : (srtS xs).length = xs.length := (srt_perm xs).length_eq
theorem srt_pw (xs : List Str) : (srtS xs).Pairwise leT := sort28_pw xs
theorem srt_eq {xs ys : List Str} (p : xs.Perm ys) : srtS xs = srtS ys := List.Perm.eq_of_pairwise (le := leT) (fun a b _ _ h1 h2 => leT_anti h1 h2) (srt_pw xs) (srt_pw ys) ((srt_perm xs).trans (p.trans (srt_perm ys).symm))
theorem srt_nodup {xs : List Str} : (srtS xs).Nodup ↔ xs.Nodup := (srt_perm xs).nodup_iff
/-- neighbours that are equal: the first of them is the first that stands twice -/
def adj : List Str → Option Str
  | a :: b :: l => if a = b then some b else adj (b :: l)
  | _ => none
theorem find_congr {α : Type} {p q : α → Bool} : ∀ {l : List α}, (∀ x ∈ l, p x = q x) → l.find? p = l.find? q
  | [], _ => rfl
  | a :: l, h => by
    rw [List.find?_cons, List.find?_cons, h a List.mem_cons_self, find_congr fun x m => h x (List.mem_cons_of_mem _ m)]
theorem adj_none : ∀ {l : List Str}, l.Pairwise leT → adj l = none → l.Nodup
  | [], _, _ => List.nodup_nil
  | [a], _, _ => by simp
  | a :: b :: l, p, e => by
    rw [adj] at e
    split at e
    · cases e
    · next ne =>
      have p2 := List.pairwise_cons.mp p
      have n := adj_none p2.2 e
      refine List.nodup_cons.mpr ⟨fun m => ?_, n⟩
      rcases List.mem_cons.mp m with m | m
      · exact ne m
      · exact ne (leT_anti (p2.1 b List.mem_cons_self) ((List.pairwise_cons.mp p2.2).1 a m))
theorem adj_find : ∀ {l : List Str}, l.Pairwise leT → adj l = l.find? fun x => decide (1 < l.count x)
  | [], _ => rfl
  | [a], _ => by simp [adj]
  | a :: b :: l, p => by
    have p2 := List.pairwise_cons.mp p
    rw [adj, List.find?_cons]
    by_cases e : a = b
    · rw [if_pos e]
      subst e
      have c : 1 < (a :: a :: l).count a := by rw [List.count_cons_self, List.count_cons_self]; omega
      rw [decide_eq_true c]
    · rw [if_neg e]
      have na : a ∉ b :: l := fun m => by
        rcases List.mem_cons.mp m with m | m
        · exact e m
        · exact e (leT_anti (p2.1 b List.mem_cons_self) ((List.pairwise_cons.mp p2.2).1 a m))
      have c : ¬ 1 < (a :: b :: l).count a := by rw [List.count_cons_self, List.count_eq_zero_of_not_mem na]; omega
      rw [decide_eq_false c, adj_find p2.2]
      simp only []
      refine find_congr fun x mx => ?_
      have : a ≠ x := fun z => na (by rw [z]; exact mx)
      rw [List.count_cons_of_ne this]
theorem adj_some_not {l : List Str} {x : Str} (e : (l.find? fun x => decide (1 < l.count x)) = some x) : ¬ l.Nodup := fun n => by
  have m := List.mem_of_find?_eq_some e
  have c := List.find?_some (p := fun x => decide (1 < l.count x)) e
  have c := of_decide_eq_true c
  have := List.nodup_iff_count.mp n x
  omega
noncomputable def unkB (Ts : List R5) (L : List Str) (l : Str) : Bool := (nbs (NG Ts) l).any fun y => decide (y ∉ L)
noncomputable def cycB (Ts : List R5) (l : Str) : Bool := decide (Rc (nbs (NG Ts)) (nbs (NG Ts) l) l)
noncomputable def dueL (Ts : List R5) (L : List Str) : Option (Str × Str) :=
  match L.find? fun l => decide (1 < L.count l) with
  | some l => some (l, "duplicate")
  | none => match L.find? (unkB Ts L) with
    | some l => some (l, "unknown")
    | none => match L.find? (cycB Ts) with
      | some l => some (l, "cycle")
      | none => if 60 < L.length then some (L.headD "", "size") else none
noncomputable def dueG (Ts : List R5) : Option (Str × Str) := dueL Ts (srtS (Ts.map (·.1)))
theorem nbs_perm {A B : List R5} (p : A.Perm B) (n : (A.map (·.1)).Nodup) (x : Str) : nbs (NG A) x = nbs (NG B) x := by
  have ks : ∀ C : List R5, ks28 (NG C) = C.map (·.1) := fun C => by rw [ks28, List.map_map]; rfl
  have nA : (ks28 (NG A)).Nodup := by rw [ks]; exact n
  have nB : (ks28 (NG B)).Nodup := by rw [ks]; exact (p.map _).nodup_iff.mp n
  by_cases m : x ∈ A.map (·.1)
  · obtain ⟨r, mr, rfl⟩ := List.mem_map.mp m
    have a := nbs_row nA (List.mem_map.mpr ⟨r, mr, rfl⟩)
    have b := nbs_row nB (List.mem_map.mpr ⟨r, p.mem_iff.mp mr, rfl⟩)
    exact a.trans b.symm
  · rw [nbs_none (by rw [ks]; exact m), nbs_none (by rw [ks]; exact fun z => m ((p.map _).mem_iff.mpr z))]
theorem due_perm {A B : List R5} (p : A.Perm B) : dueG A = dueG B := by
  unfold dueG
  rw [srt_eq (p.map (·.1))]
  unfold dueL
  cases e : (srtS (B.map (·.1))).find? fun l => decide (1 < (srtS (B.map (·.1))).count l) with
  | some l => rfl
  | none =>
    have nB : (B.map (·.1)).Nodup := srt_nodup.mp (adj_none (srt_pw _) ((adj_find (srt_pw _)).trans e))
    have nA : (A.map (·.1)).Nodup := (p.map _).nodup_iff.mpr nB
    have en : nbs (NG A) = nbs (NG B) := funext fun x => nbs_perm p nA x
    have e1 : unkB A (srtS (B.map (·.1))) = unkB B (srtS (B.map (·.1))) := funext fun l => by unfold unkB; rw [en]
    have e2 : cycB A = cycB B := funext fun l => by unfold cycB; rw [en]
    simp only [e1, e2]
theorem due_none {Ts : List R5} (e : dueG Ts = none) : (Ts.map (·.1)).Nodup ∧ (∀ l ∈ Ts.map (·.1), unkB Ts (srtS (Ts.map (·.1))) l = false) ∧ Ts.length ≤ 60 := by
  unfold dueG dueL at e
  split at e
  · cases e
  · next e1 =>
    split at e
    · cases e
    · next e2 =>
      split at e
      · cases e
      · split at e
        · cases e
        · next hl =>
          refine ⟨srt_nodup.mp (adj_none (srt_pw _) ((adj_find (srt_pw _)).trans e1)), fun l m => ?_, ?_⟩
          · have := List.find?_eq_none.mp e2 l (srt_mem.mpr m)
            simpa using this
          · rw [srt_len, List.length_map] at hl
            omega
/-! ### what is placed is in no cycle -/
theorem ord_pre {N : Nl} (n : (ks28 N).Nodup) : ∀ (k i : Nat) (x : Str), (ordG N k)[i]? = some x → ∀ y ∈ nbs N x, y ∈ (ordG N k).take i
  | 0, i, x, e => by simp [ordG] at e
  | k + 1, i, x, e => by
    intro y my
    rw [ordG] at e ⊢
    unfold nxt at e ⊢
    split at e
    · next q => exact ord_pre n k i x e y my
    · next z zs q =>
      by_cases hi : i < (ordG N k).length
      · rw [List.getElem?_append_left hi] at e
        rw [List.take_append_of_le_length (Nat.le_of_lt hi)]
        exact ord_pre n k i x e y my
      · rw [List.getElem?_append_right (by omega)] at e
        have hz : i - (ordG N k).length = 0 := by
          refine Classical.byContradiction fun w => ?_
          rw [List.getElem?_eq_none (by simp; omega)] at e
          cases e
        rw [hz] at e
        have ex : mnS z zs = x := by simpa using e
        have mz : x ∈ rdy N (ordG N k) := by rw [q, ← ex]; exact (mn_least z zs).1
        have h0 := ((rdy_mem n).mp mz).2.2
        have hy : y ∈ ordG N k := Classical.byContradiction fun w => by
          unfold mis at h0
          have : y ∈ (nbs N x).filter fun y => decide (y ∉ ordG N k) := List.mem_filter.mpr ⟨my, decide_eq_true w⟩
          rw [List.length_eq_zero_iff.mp h0] at this
          exact absurd this List.not_mem_nil
        have : i = (ordG N k).length := by omega
        rw [this, List.take_left']
        · exact hy
        · rfl
theorem ord_nocyc {N : Nl} (n : (ks28 N).Nodup) {k : Nat} {x : Str} (m : x ∈ ordG N k) : ¬ Rc (nbs N) (nbs N x) x := fun r => by
  obtain ⟨i, ei⟩ := List.mem_iff_getElem?.mp m
  have nd := (ord_facts n k).1
  have key : ∀ {z}, Rc (nbs N) (nbs N x) z → z ∈ (ordG N k).take i := fun r => by
    induction r with
    | base my => exact ord_pre n k i x ei _ my
    | step _ my ih =>
      obtain ⟨i2, e2⟩ := List.mem_iff_getElem?.mp ih
      have l2 : i2 < i := by
        refine Classical.byContradiction fun w => ?_
        rw [List.getElem?_take_eq_none (by omega)] at e2
        cases e2
      rw [List.getElem?_take_of_lt l2] at e2
      have := ord_pre n k i2 _ e2 _ my
      exact List.mem_of_mem_take (i := i2) (by rw [List.take_take, Nat.min_eq_left (Nat.le_of_lt l2)]; exact this)
  obtain ⟨i2, e2⟩ := List.mem_iff_getElem?.mp (key r)
  have l2 : i2 < i := by
    refine Classical.byContradiction fun w => ?_
    rw [List.getElem?_take_eq_none (by omega)] at e2
    cases e2
  rw [List.getElem?_take_of_lt l2] at e2
  have l1 : i < (ordG N k).length := (List.getElem?_eq_some_iff.mp ei).1
  have := (List.getElem?_inj l1 nd).mp (ei.trans e2.symm)
  omega
end Vi

set_option Elab.async false
set_option linter.all false
set_option autoImplicit false
set_option maxRecDepth 100000
set_option maxHeartbeats 2000000
namespace Vi
open PySem PySem.Spec PyProof.Rows L2
open scoped Classical
local macro_rules | `(tactic| walk_at "x1") => `(tactic| with_reducible first
  | refine x_bin ?_ | refine x_tst ?_ | refine x_oB ?_ | refine x_c ?_ | refine s_seqA ?_ | refine s_seqU ?_ | refine s_seqE ?_ | refine s_seqN ?_ | refine s_seqD ?_ | refine s_seqF ?_ | refine s_seqL ?_ | refine s_asg' ?_ | refine s_if' ?_ | refine s_ret' ?_ | refine s_exp' ?_ | refine s_next ?_ | refine s_retN' ?_ | refine s_sub' ?_ | refine s_dsub' ?_ | refine s_setF' ?_ | refine s_ddel' ?_
  | refine x_cb ?_ | refine x_cons ?_ | refine x_nil ?_ | refine x_call ?_ | refine x_met ?_ | refine x_meth ?_ | refine x_make ?_ | refine x_fld ?_ | refine x_un ?_ | refine x_notT ?_ | refine x_andT ?_ | refine x_orT ?_ | refine x_and ?_ | refine x_or ?_ | refine x_not ?_ | refine x_if ?_
  | refine x_tup ?_ | refine x_lst ?_ | refine x_cel ?_ | refine x_dnew ?_ | refine x_sortIt ?_ | refine x_sl ?_ | refine x_noP ?_ | refine x_part ?_ | refine x_oI ?_ | refine x_mI ?_ | refine x_rng ?_ | refine x_yes ?_ | refine x_chn ?_ | refine x_fun ?_ | refine x_ok ?_)
local macro_rules | `(tactic| walk_at "x2") => `(tactic| first
  | ((with_reducible refine y_var ?_); refine ⟨_, rfl, ?_⟩)
  | ((with_reducible refine y_some ?_); refine ⟨_, rfl, ?_⟩)
  | ((with_reducible refine y_gP ?_); refine ⟨_, rfl, ?_⟩))
local macro_rules | `(tactic| walk_at "x") => `(tactic| repeat (first | walk_at "x1" | walk_at "x2" ))
local macro_rules | `(tactic| walk_at "nx") => `(tactic| (refine next_k (by assumption) (by assumption) (by first | decide | omega) (by first | decide | omega) ?_))
section
variable {h : Hap} {P : D → Hap → Prop} {N : Nl} {j : Nat}
theorem lk_at {wb : Bool} (n : (ks28 N).Nodup) (hj : h[j]? = some (.dct (nD wb N))) : Lk h j (nbs N) := by
  refine ⟨nD wb N, hj, fun x => ?_⟩
  by_cases m : x ∈ ks28 N
  · obtain ⟨r, mr, rfl⟩ := List.mem_map.mp m
    exact .inr ⟨_, val_nD n mr, .inl ⟨wb, by rw [nbs_row n mr]⟩⟩
  · refine .inl ⟨?_, nbs_none m⟩
    unfold valD
    rw [List.find?_eq_none.mpr fun kv mk z => m ?_]
    · rfl
    · obtain ⟨r, mr, rfl⟩ := List.mem_map.mp mk
      exact List.mem_map.mpr ⟨r, mr, Sum.inr.inj (of_decide_eq_true z)⟩
def leKy : Key → Key → Bool := PySem.W.dataLe false keyP
theorem sort_keys (xs : List Str) : ((xs.map (Sum.inr : Str → Key)).mergeSort leKy).map keyV = (srtS xs).map D.str := by
  have e := PySem.W.sort_maps (r := le28) (s := leKy) (Sum.inr : Str → Key) (l := xs) fun _ _ _ _ => rfl
  rw [show (xs.map (Sum.inr : Str → Key)).mergeSort leKy = (xs.mergeSort le28).map Sum.inr from e.symm, List.map_map]
  rfl
theorem nD_keys {wb : Bool} : (nD wb N).map Prod.fst = (ks28 N).map Sum.inr := by
  unfold nD
  rw [List.map_map, ks28, List.map_map]
  rfl
theorem v28_sortKs {wb : Bool} (hj : h[j]? = some (.dct (nD wb N))) (p : P (.lst ((srtS (ks28 N)).map .str)) h) : Sat (ofO (dSortKs [.ref j] h) h) P := by
  refine x_some ?_ p
  unfold dSortKs
  simp only []
  have gd : getD (.ref j) h = some (nD wb N) := by
    show (match h[j]? with | some (.dct kvs) => some kvs | _ => none) = _
    rw [hj]
  rw [gd, Option.bind_some]
  have ks : keySrt (nD wb N) := by
    unfold keySrt
    rw [nD_keys, List.map_map]
    constructor
    · intro d m d' m'
      obtain ⟨a, _, rfl⟩ := List.mem_map.mp m
      obtain ⟨b, _, rfl⟩ := List.mem_map.mp m'
      rfl
    · refine .inr fun d m => ?_
      obtain ⟨a, _, rfl⟩ := List.mem_map.mp m
      exact ⟨fun z => (nomatch z), fun _ z => nomatch z⟩
  rw [if_pos ks, nD_keys]
  exact congrArg (fun l => some (D.lst l)) (sort_keys _)
noncomputable def cyN (N : Nl) (l : Str) : Bool := decide (Rc (nbs N) (nbs N l) l)
def oS27 : Option Str → D
  | some l => .str l
  | none => .non
theorem fD_put {F : List Str} {x : Str} (m : x ∉ F) : putD (fD F) (.inr x) (.bl true) = fD (F ++ [x]) := by
  unfold fD putD
  rw [if_neg, List.map_append]
  · rfl
  · intro z
    obtain ⟨kv, mk, ek⟩ := List.any_eq_true.mp z
    obtain ⟨y, my, rfl⟩ := List.mem_map.mp mk
    exact m (by rw [← Sum.inr.inj (of_decide_eq_true ek)]; exact my)
theorem least_in_cycle_k {wb : Bool} (n : (ks28 N).Nodup) (cl : ∀ r ∈ N, ∀ y ∈ r.2, y ∈ ks28 N) (hl : N.length ≤ 100) (hr : ∀ r ∈ N, r.2.length ≤ 10) (hj : h[j]? = some (.dct (nD wb N))) (k : ∀ h', Kp h h' → h.length ≤ h'.length → P (oS27 ((srtS (ks28 N)).find? (cyN N))) h') : Sat (Mi.m_least_in_cycle_2 [.ref j] h) P := by
  unfold Mi.m_least_in_cycle_2 Mi.b_least_in_cycle_2
  have jl := (List.getElem?_eq_some_iff.mp hj).1
  have kl : (ks28 N).length = N.length := by rw [ks28, List.length_map]
  obtain ⟨nO, sO, lO⟩ := ord_facts n N.length
  have src : Sat (mI (mCall Mi.m_ordered (mCons (mVar 0) mNil)) (env0 3 [.ref j]) h) fun s h1 => s.1 = (ordG N N.length).map D.str ∧ s.2 h1 ∧ h1[j]? = some (.dct (nD wb N)) ∧ Kp h h1 ∧ h.length ≤ h1.length := by
    refine x_mI (x_call (x_cons (x_var rfl (x_nil ?_))))
    refine ordered_k n cl (by omega) (fun r m => Nat.le_trans (hr r m) (by omega)) hj fun o h1 ho lo ll => ⟨_, sq28 ho, rfl, sq28 ho, by rw [lo _ jl]; exact hj, lo, ll⟩
  obtain ⟨sv, h1, e1, es, eg, hj1, kp1, ll1⟩ := src.ex
  have nc : ∀ x ∈ ordG N N.length, cyN N x = false := fun x m => decide_eq_false (ord_nocyc n m)
  generalize ordG N N.length = O at nO sO lO es nc
  have nl : ∀ x, (nbs N x).length ≤ 10 := fun x => by
    by_cases m : x ∈ ks28 N
    · obtain ⟨r, mr, rfl⟩ := List.mem_map.mp m
      rw [nbs_row n mr]
      exact hr r mr
    · rw [nbs_none m]
      exact Nat.zero_le _
  have w := wgt_le (ks := ks28 N) (nb := nbs N) (c := 10) nl
  refine x_fun (s_seq (s_asg' (x_dcomp28 (fun pre post h' acc => h' = h1 ∧ ∃ A B : List Str, O = A ++ B ∧ pre = A.map .str ∧ post = B.map .str ∧ acc = fD A) ?_)))
  rw [e1]
  refine ⟨⟨rfl, [], O, rfl, rfl, es, rfl⟩, fun pre post h' acc _ z => by rw [z.1]; exact eg, ?_, ?_⟩
  · rintro pre x post h' acc hx ⟨rfl, A, B, eO, rfl, eB, rfl⟩
    cases B with
    | nil => cases eB
    | cons l B =>
      injection eB with e2 e3
      subst e2 e3
      have nA : l ∉ A := fun m => by
        rw [eO, List.nodup_append] at nO
        exact nO.2.2 l m l List.mem_cons_self rfl
      refine ⟨_, rfl, x_yes ⟨rfl, x_var rfl (x_c ⟨_, rfl, ?_, rfl, A ++ [l], B, by rw [eO]; simp, by rw [List.map_append]; rfl, rfl, fD_put nA⟩)⟩⟩
      have := congrArg List.length eO
      rw [List.length_append] at this
      rw [fD, List.length_map, sizeLine_eq]
      omega
  rintro h' acc ⟨rfl, A, B, eO, eA, eB, rfl⟩
  have : B = [] := List.map_eq_nil_iff.mp eB.symm
  subst this
  rw [List.append_nil] at eO
  subst eO
  have hjO : ∀ g, (h' ++ [Cel.dct (fD O)] ++ g)[j]? = some (.dct (nD wb N)) := fun g => app_at (app_at hj1)
  have hO : ∀ g, (h' ++ [Cel.dct (fD O)] ++ g)[h'.length]? = some (.dct (fD O)) := fun g => app_at (ge1 _ _)
  have hK : ∀ g, Kp h (h' ++ [Cel.dct (fD O)] ++ g) ∧ h.length ≤ (h' ++ [Cel.dct (fD O)] ++ g).length := fun g => ⟨kp1.trans (by rw [List.append_assoc]; exact kp_app) ll1, by rw [List.length_append, List.length_append]; omega⟩
  generalize h' ++ [Cel.dct (fD O)] = h2 at hjO hO hK ⊢
  have hlO : h'.length = h'.length := rfl
  generalize h'.length = o at hO ⊢
  dsimp only
  refine s_seq (s_forI (fun pre post e h3 => ∃ (A B : List Str) (x2 : Option D) (g : Hap), srtS (ks28 N) = A ++ B ∧ pre = A.map .str ∧ post = B.map .str ∧ e = [some (.ref j), some (.ref o), x2] ∧ h3 = h2 ++ g ∧ ∀ x ∈ A, cyN N x = false) ?_)
  refine x_mI (x_cb (x_cons (x_var rfl (x_nil (v28_sortKs (by have := hjO []; rw [List.append_nil] at this; exact this) ?_)))))
  refine ⟨_, rfl, ⟨[], srtS (ks28 N), _, [], rfl, rfl, rfl, rfl, by rw [List.append_nil], fun x m => absurd m List.not_mem_nil⟩, fun _ _ _ _ _ _ => rfl, ?_, ?_⟩
  · rintro pre y post e h3 hx ⟨A, B, x2, g, eS, rfl, eB, rfl, rfl, cA⟩
    cases B with
    | nil => cases eB
    | cons l B =>
      injection eB with e2 e3
      subst e2 e3
      refine ⟨_, rfl, ?_⟩
      have nxt : ∀ (g : Hap) (x2 : Option D), cyN N l = false → ∃ (A1 B1 : List Str) (x2 : Option D) (g1 : Hap), srtS (ks28 N) = A1 ++ B1 ∧ A.map D.str ++ [.str l] = A1.map .str ∧ B.map D.str = B1.map .str ∧ [some (.ref j), some (.ref o), some (.str l)] = [some (D.ref j), some (.ref o), x2] ∧ h2 ++ g = h2 ++ g1 ∧ ∀ x ∈ A1, cyN N x = false := fun g x2 z => ⟨A ++ [l], B, _, g, by rw [eS]; simp, by rw [List.map_append]; rfl, rfl, rfl, rfl, fun x m => (List.mem_append.mp m).elim (cA x) fun m => by rw [List.mem_singleton.mp m]; exact z⟩
      refine s_if' (x_andT (x_tst (x_bin (x_var rfl (x_var rfl (v28_nin (hO g) (val_fD O l) (x_oB ⟨fun z => ?_, fun z => ⟨fun e => (nomatch e), fun _ => s_next ?_⟩⟩)))))))
      · refine x_tst (x_bin (x_var rfl (x_call (x_cons (x_var rfl (x_cons (x_bin (x_var rfl (x_var rfl ?_)))))))))
        have ml : l ∈ ks28 N := srt_mem.mp (by rw [eS]; simp)
        obtain ⟨r, mr, er⟩ := List.mem_map.mp ml
        have er : r.1 = l := er
        subst er
        have vv := val_nD (wb := wb) n mr
        rw [← nbs_row n mr] at vv
        refine v28_sub (hjO g) vv (x_nil ?_)
        have nlr := nl r.1
        refine reached_k (ks := ks28 N) (nb := nbs N) n (fun x m => nbs_none m) (lk_at n (hjO g)) (S := nbs N r.1) (gq_wD _ _ _) (fun _ => gq_wD _ _ _) (by omega) fun F _ mF => ?_
        have hF : (h2 ++ g ++ [Cel.dct (fD F), .lst []])[(h2 ++ g).length]? = some (.dct (fD F)) := by rw [List.getElem?_append_right (Nat.le_refl _), Nat.sub_self]; rfl
        have ec : decide (r.1 ∈ F) = cyN N r.1 := by unfold cyN; rw [decide_eq_decide]; exact mF r.1
        refine v28_in hF (val_fD F r.1) (x_oB ⟨fun z => ?_, fun z => s_next ?_⟩)
        · refine s_ret' (x_var rfl ?_)
          have ef : (srtS (ks28 N)).find? (cyN N) = some r.1 := by
            rw [List.find?_eq_some_iff_append]
            exact ⟨by rw [← ec]; exact z, A, B, eS, fun a m => by rw [cA a m]; rfl⟩
          have q := k (h2 ++ g ++ [Cel.dct (fD F), .lst []]) (by rw [List.append_assoc]; exact (hK _).1) (by rw [List.append_assoc]; exact (hK _).2)
          rw [ef] at q
          exact q
        · have := nxt (g ++ [Cel.dct (fD F), .lst []]) none (by rw [← ec]; exact z)
          rw [← List.append_assoc] at this
          exact this
      · have mO : l ∈ O := of_decide_eq_true (not_f z)
        exact nxt g none (nc l mO)
  · rintro e h3 ⟨A, B, x2, g, eS, eA, eB, rfl, rfl, cA⟩
    have : B = [] := List.map_eq_nil_iff.mp eB.symm
    subst this
    rw [List.append_nil] at eS
    dsimp only
    refine s_ret' (x_c ?_)
    have ef : (srtS (ks28 N)).find? (cyN N) = none := List.find?_eq_none.mpr fun x m => by
      rw [cA x (by rw [← eS]; exact m)]
      decide
    have q := k (h2 ++ g) (hK _).1 (hK _).2
    rw [ef] at q
    exact q
end
end Vi

set_option Elab.async false
set_option linter.all false
set_option autoImplicit false
set_option maxRecDepth 100000
set_option maxHeartbeats 2000000
namespace Vi
open PySem PySem.Spec PyProof.Rows L2
open scoped Classical
local macro_rules | `(tactic| walk_at "x1") => `(tactic| with_reducible first
  | refine x_bin ?_ | refine x_tst ?_ | refine x_oB ?_ | refine x_c ?_ | refine s_seqA ?_ | refine s_seqU ?_ | refine s_seqE ?_ | refine s_seqN ?_ | refine s_seqD ?_ | refine s_seqF ?_ | refine s_seqL ?_ | refine s_asg' ?_ | refine s_if' ?_ | refine s_ret' ?_ | refine s_exp' ?_ | refine s_next ?_ | refine s_retN' ?_ | refine s_sub' ?_ | refine s_dsub' ?_ | refine s_setF' ?_ | refine s_ddel' ?_
  | refine x_cb ?_ | refine x_cons ?_ | refine x_nil ?_ | refine x_call ?_ | refine x_met ?_ | refine x_meth ?_ | refine x_make ?_ | refine x_fld ?_ | refine x_un ?_ | refine x_notT ?_ | refine x_andT ?_ | refine x_orT ?_ | refine x_and ?_ | refine x_or ?_ | refine x_not ?_ | refine x_if ?_
  | refine x_tup ?_ | refine x_lst ?_ | refine x_cel ?_ | refine x_dnew ?_ | refine x_sortIt ?_ | refine x_sl ?_ | refine x_noP ?_ | refine x_part ?_ | refine x_oI ?_ | refine x_mI ?_ | refine x_rng ?_ | refine x_yes ?_ | refine x_chn ?_ | refine x_fun ?_ | refine x_ok ?_)
local macro_rules | `(tactic| walk_at "x2") => `(tactic| first
  | ((with_reducible refine y_var ?_); refine ⟨_, rfl, ?_⟩)
  | ((with_reducible refine y_some ?_); refine ⟨_, rfl, ?_⟩)
  | ((with_reducible refine y_gP ?_); refine ⟨_, rfl, ?_⟩))
local macro_rules | `(tactic| walk_at "x") => `(tactic| repeat (first | walk_at "x1" | walk_at "x2" ))
local macro_rules | `(tactic| walk_at "nx") => `(tactic| (refine next_k (by assumption) (by assumption) (by first | decide | omega) (by first | decide | omega) ?_))
section
variable {h : Hap} {P : D → Hap → Prop} {E : EX} {Ts : List R5} {j : Nat} {r : R5}
theorem action_from_k (hr : r.2.2.2.1.length ≤ 10 ∧ r.2.2.2.2.length ≤ 10) (k : P (rwG r) h) : Sat (Mi.m_action_from [tgD r] h) P := by
  unfold Mi.m_action_from Mi.b_action_from
  refine x_fun (s_seq (s_asgT (x_var rfl ⟨_, rfl, ?_⟩)))
  have i1 : ∀ {env : Env} {h : Hap}, env[4]? = some (some (.tup (r.2.2.2.1.map .str))) → Sat (mI (mVar 4) env h) fun s h1 => h1 = h ∧ s.1 = r.2.2.2.1.map D.str ∧ s.2 h := fun e2 => x_items (dd := .tup (r.2.2.2.1.map .str)) rfl (x_var e2 ⟨rfl, rfl⟩)
  have i2 : ∀ {env : Env} {h : Hap}, env[5]? = some (some (.tup (r.2.2.2.2.map .str))) → Sat (mI (mVar 5) env h) fun s h1 => h1 = h ∧ s.1 = r.2.2.2.2.map D.str ∧ s.2 h := fun e2 => x_items (dd := .tup (r.2.2.2.2.map .str)) rfl (x_var e2 ⟨rfl, rfl⟩)
  refine s_seq (s_asg' (x_bin ?_))
  refine x_compM (r.2.2.2.1.map .str) (fun d => .tup [.str "source", d]) (by rw [List.length_map, sizeLine_eq]; omega) (i1 rfl) (fun x _ => ⟨_, rfl, ?_⟩) ?_
  · refine x_tup (x_cons (x_c (x_cons (x_var rfl (x_nil ?_)))))
    exact ⟨sl_le (show 2 ≤ 16777216 by decide), rfl, rfl⟩
  refine x_compM (r.2.2.2.2.map .str) (fun d => .tup [.str "target", d]) (by rw [List.length_map, sizeLine_eq]; omega) (i2 rfl) (fun x _ => ⟨_, rfl, ?_⟩) ?_
  · refine x_tup (x_cons (x_c (x_cons (x_var rfl (x_nil ?_)))))
    exact ⟨sl_le (show 2 ≤ 16777216 by decide), rfl, rfl⟩
  refine add28 (by simp; omega) ?_
  have ei : (r.2.2.2.1.map D.str).map (fun d => D.tup [.str "source", d]) ++ (r.2.2.2.2.map D.str).map (fun d => D.tup [.str "target", d]) = inD r := by
    unfold inD
    rw [List.map_map, List.map_map]
    rfl
  rw [ei]
  dsimp only
  refine s_ret' (x_tup ?_)
  refine x_cons (x_var (d := .str r.1) rfl ?_)
  refine x_cons (x_var (d := .str r.2.1) rfl ?_)
  refine x_cons (x_var (d := .tup (r.2.2.1.map .str)) rfl ?_)
  refine x_cons (x_cb (x_cons (x_var rfl (x_nil (x_some (d := .tup (inD r)) rfl ?_)))))
  exact x_nil ⟨sl_le (show 4 ≤ 16777216 by decide), k⟩
def keyT : D → Key
  | .tup (.str a :: _) => .inr a
  | _ => .inl 0
def neT : D → D
  | .tup [_, _, _, _, x] => x
  | d => d
def prD27 (p : Str × Str) : D := .tup [.str p.1, .str p.2]
theorem zp_map (xs ys : List Str) : zpD (xs.map .str) (ys.map .str) = (xs.zip ys).map prD27 := by
  unfold zpD
  rw [List.zip_map, List.map_map]
  rfl
theorem adj_zip : ∀ L : List Str, adj L = ((L.zip (L.drop 1)).find? fun p => decide (p.1 = p.2)).map (·.2)
  | [] => rfl
  | [a] => rfl
  | a :: b :: l => by
    rw [adj]
    show _ = (((a, b) :: ((b :: l).zip l)).find? _).map _
    rw [List.find?_cons]
    by_cases e : a = b
    · rw [if_pos e, decide_eq_true (show (a, b).1 = (a, b).2 from e)]
      rfl
    · rw [if_neg e, decide_eq_false (show ¬ (a, b).1 = (a, b).2 from e), adj_zip (b :: l)]
      rfl
theorem cut1 (xs : List D) : cutX xs (some 1) none = xs.drop 1 := by
  unfold cutX
  have h1 := HT.sIx_nat xs.length 0 1
  rw [HT.sIx_none, show (some (1 : Int)) = some ((1 : Nat) : Int) from rfl, h1]
  cases xs with
  | nil => simp
  | cons x xs =>
    have : min 1 (x :: xs).length = 1 := by simp
    rw [this]
    exact List.take_of_length_le (by simp)
theorem nD_isSome {wb : Bool} {N : Nl} (n : (ks28 N).Nodup) (x : Str) : (valD (nD wb N) (.inr x)).isSome = decide (x ∈ ks28 N) := by
  by_cases m : x ∈ ks28 N
  · obtain ⟨r, mr, rfl⟩ := List.mem_map.mp m
    rw [val_nD n mr, decide_eq_true m]
    rfl
  · rw [decide_eq_false m]
    unfold valD
    rw [List.find?_eq_none.mpr fun kv mk z => m ?_]
    · rfl
    · obtain ⟨r, mr, rfl⟩ := List.mem_map.mp mk
      exact List.mem_map.mpr ⟨r, mr, Sum.inr.inj (of_decide_eq_true z)⟩
end
end Vi

set_option Elab.async false
set_option linter.all false
set_option autoImplicit false
set_option maxRecDepth 100000
set_option maxHeartbeats 2000000
namespace Vi
open PySem PySem.Spec PyProof.Rows L2
open scoped Classical
local macro_rules | `(tactic| walk_at "x1") => `(tactic| with_reducible first
  | refine x_bin ?_ | refine x_tst ?_ | refine x_oB ?_ | refine x_c ?_ | refine s_seqA ?_ | refine s_seqU ?_ | refine s_seqE ?_ | refine s_seqN ?_ | refine s_seqD ?_ | refine s_seqF ?_ | refine s_seqL ?_ | refine s_asg' ?_ | refine s_if' ?_ | refine s_ret' ?_ | refine s_exp' ?_ | refine s_next ?_ | refine s_retN' ?_ | refine s_sub' ?_ | refine s_dsub' ?_ | refine s_setF' ?_ | refine s_ddel' ?_
  | refine x_cb ?_ | refine x_cons ?_ | refine x_nil ?_ | refine x_call ?_ | refine x_met ?_ | refine x_meth ?_ | refine x_make ?_ | refine x_fld ?_ | refine x_un ?_ | refine x_notT ?_ | refine x_andT ?_ | refine x_orT ?_ | refine x_and ?_ | refine x_or ?_ | refine x_not ?_ | refine x_if ?_
  | refine x_tup ?_ | refine x_lst ?_ | refine x_cel ?_ | refine x_dnew ?_ | refine x_sortIt ?_ | refine x_sl ?_ | refine x_noP ?_ | refine x_part ?_ | refine x_oI ?_ | refine x_mI ?_ | refine x_rng ?_ | refine x_yes ?_ | refine x_chn ?_ | refine x_fun ?_ | refine x_ok ?_)
local macro_rules | `(tactic| walk_at "x2") => `(tactic| first
  | ((with_reducible refine y_var ?_); refine ⟨_, rfl, ?_⟩)
  | ((with_reducible refine y_some ?_); refine ⟨_, rfl, ?_⟩)
  | ((with_reducible refine y_gP ?_); refine ⟨_, rfl, ?_⟩))
local macro_rules | `(tactic| walk_at "x") => `(tactic| repeat (first | walk_at "x1" | walk_at "x2" ))
local macro_rules | `(tactic| walk_at "nx") => `(tactic| (refine next_k (by assumption) (by assumption) (by first | decide | omega) (by first | decide | omega) ?_))
section
variable {h : Hap} {P : D → Hap → Prop} {E : EX} {Ts : List R5} {j d : Nat} {r : R5} {L : List Str}
theorem x_zp {a : MA} {env : Env} {P : List D × (Hap → Prop) → Hap → Prop} (s : Sat (a env h) fun ds h1 => ∃ d e xs ys, ds = [d, e] ∧ getL d h1 = some xs ∧ getL e h1 = some ys ∧ P (zpD xs ys, fun h => getL d h = some xs ∧ getL e h = some ys) h1) : Sat (mZp a env h) P := by
  unfold mZp
  refine Sat.bind (s.mono fun ds h1 z => ?_)
  obtain ⟨d, e, xs, ys, rfl, e1, e2, p⟩ := z
  simp only []
  rw [e1, e2]
  exact p
def e27 (j : Nat) (L : List Str) (x2 x3 x4 x5 : Option D) : Env := [some (.ref j), some (.lst (L.map .str)), x2, x3, x4, x5, none, none]
abbrev gp27 (z : String) (l : Str) : Option (List (Str × D)) := some [("reason", .str (Str.ofString z)), ("label", .str l)]
noncomputable def mg27_d : MS := (mSeq (mAsg (mCall Mi.m_least_in_cycle_2 (mCons (mVar 4) mNil)) (gNm 5))
    (mSeq (mIfS (mTst (mBin dIsNot (mVar 5) (mC .non))) (mRaiseF "GraphProblem" ["label", "reason"] (mCons (mVar 5) (mCons (mC (.str "cycle")) mNil))) mNext)
    (mSeq (mIfS (mTst (mBin dGt (mCB dLen (mCons (mVar 1) mNil)) (mC (.int 60)))) (mRaiseF "GraphProblem" ["label", "reason"] (mCons (mBin dIx (mVar 1) (mC (.int 0))) (mCons (mC (.str "size")) mNil))) mNext)
    (mRet (mCB dTupleOf (mCons (mCB dSortK0 (mCons (mComp (mI (mVar 0)) [6] (gNm 6) mYes (mCall Mi.m_action_from (mCons (mVar 6) mNil))) mNil)) mNil))))))
noncomputable def mg27_c : MS := (mSeq (mAsg (mDComp (mI (mVar 0)) [6] (gNm 6) mYes (mBin dIx (mVar 6) (mC (.int 0))) (mBin dIx (mVar 6) (mC (.int 4)))) (gNm 4))
    (mSeq (mFor (mI (mVar 1)) (gNm 3) (mIfS (mTst (mCB dAny (mCons (mComp (mI (mBin dDGet (mVar 4) (mVar 3))) [7] (gNm 7) mYes (mBin dDNotIn (mVar 7) (mVar 4))) mNil))) (mRaiseF "GraphProblem" ["label", "reason"] (mCons (mVar 3) (mCons (mC (.str "unknown")) mNil))) mNext))
    mg27_d))
noncomputable def mg27_b : MS := (mSeq (mFor (mZp (mCons (mVar 1) (mCons (mSl (mVar 1) (mPart (mC (.int 1))) mNoP) mNil))) (gTp 2 (gsCons (gNm 2) (gsCons (gNm 3) gsNil))) (mIfS (mTst (mBin dEq (mVar 2) (mVar 3))) (mRaiseF "GraphProblem" ["label", "reason"] (mCons (mVar 3) (mCons (mC (.str "duplicate")) mNil))) mNext))
    mg27_c)
theorem mgd_k {x2 x3 x5 : Option D} {Q : Ps} {F : EXS} (eL : L = srtS (Ts.map (·.1))) (n : (Ts.map (·.1)).Nodup) (un : ∀ l ∈ L, unkB Ts L l = false) (hl : Ts.length ≤ 70) (hr : ∀ r ∈ Ts, r.2.2.2.1.length ≤ 10 ∧ r.2.2.2.2.length ≤ 10)
    (hj : h[j]? = some (.lst (Ts.map tgD))) (hd : h[d]? = some (.dct (nD true (NG Ts)))) (k0 : dueG Ts = none → ∀ h', Kp h h' → Q.r (.tup ((Ts.mergeSort leG).map rwG)) h')
    (k1 : ∀ (l : Str) (z : String) e h', dueG Ts = some (l, Str.ofString z) → Kp h h' → F "GraphProblem" (gp27 z l) e h') : SatSX (mg27_d (e27 j L x2 x3 (some (.ref d)) x5) h) Q F := by
  unfold mg27_d
  have ks : ks28 (NG Ts) = Ts.map (·.1) := by rw [ks28, List.map_map]; rfl
  have nk : (ks28 (NG Ts)).Nodup := by rw [ks]; exact n
  have mL : ∀ x, x ∈ L ↔ x ∈ Ts.map (·.1) := fun x => by rw [eL]; exact srt_mem
  have lL : L.length = Ts.length := by rw [eL, srt_len, List.length_map]
  have eD : dueG Ts = match L.find? (cycB Ts) with
      | some l => some (l, "cycle")
      | none => if 60 < L.length then some (L.headD "", "size") else none := by
    unfold dueG dueL
    rw [← eL]
    have d1 : (L.find? fun l => decide (1 < L.count l)) = none := by
      rw [← adj_find (by rw [eL]; exact srt_pw _)]
      cases q : adj L with
      | none => rfl
      | some x =>
        rw [adj_find (by rw [eL]; exact srt_pw _)] at q
        exact absurd (by rw [eL]; exact srt_nodup.mpr n) (adj_some_not q)
    have d2 : L.find? (unkB Ts L) = none := List.find?_eq_none.mpr fun l m => by rw [un l m]; decide
    rw [d1, d2]
    all_goals rfl
  have cl : ∀ r ∈ NG Ts, ∀ y ∈ r.2, y ∈ ks28 (NG Ts) := fun r m y my => by
    have e := un r.1 ((mL _).mpr (by rw [← ks]; exact List.mem_map.mpr ⟨r, m, rfl⟩))
    unfold unkB at e
    rw [nbs_row nk m, List.any_eq_false] at e
    have := e y my
    rw [ks]
    exact Classical.byContradiction fun w => this (decide_eq_true fun z => w ((mL y).mp z))
  refine X.seq (s_asg' (x_call (x_cons (x_var rfl (x_nil (least_in_cycle_k nk cl (by rw [List.length_map]; omega) (fun r m => ?_) hd fun h2 K2 L2 => ?_))))))
  · obtain ⟨q, mq, rfl⟩ := List.mem_map.mp m
    exact (hr q mq).2
  rw [ks, ← eL]
  have ec : cyN (NG Ts) = cycB Ts := rfl
  rw [ec]
  have hj2 : h2[j]? = some (.lst (Ts.map tgD)) := by rw [K2 _ (List.getElem?_eq_some_iff.mp hj).1]; exact hj
  cases q : L.find? (cycB Ts) with
  | some l =>
    rw [q] at eD
    dsimp only
    refine X.seqX (X.ife (x_tst (x_bin (x_var rfl (x_c ?_)))))
    refine x_some (d := .bl true) rfl (x_oB ⟨fun _ => ?_, fun z => nomatch z⟩)
    refine X.raise ?_
    refine x_cons (x_var (d := .str l) rfl ?_)
    refine x_cons (x_c (x_nil ⟨rfl, by decide, ?_⟩))
    exact k1 l "cycle" _ _ eD K2
  | none =>
    rw [q] at eD
    dsimp only
    refine X.seqX (X.ife (x_tst (x_bin (x_var rfl (x_c ?_)))))
    refine x_some (d := .bl false) rfl (x_oB ⟨fun z => (nomatch z), fun _ => SatSX.of (s_next ?_)⟩)
    dsimp only
    refine X.seqX (X.ife (x_tst (x_bin (x_cb (x_cons (x_var rfl (x_nil (v_lenQ (xs := L.map .str) rfl (fun z => by simp) (x_c ?_)))))))))
    refine x_some (d := .bl (decide (((L.map D.str).length : Int) > 60))) rfl (x_oB ⟨fun z => ?_, fun z => SatSX.of (s_next ?_)⟩)
    · have z := of_decide_eq_true z
      rw [List.length_map] at z
      have h0 : ∃ l M, L = l :: M := by
        cases L with
        | nil => simp at z
        | cons l M => exact ⟨l, M, rfl⟩
      obtain ⟨l, M, eM⟩ := h0
      rw [if_pos (by omega)] at eD
      refine X.raise ?_
      refine x_cons (x_bin (x_var rfl (x_c ?_)))
      refine ix28 (xs := L.map .str) (y := .str l) rfl ?_ (x_cons (x_c (x_nil ⟨rfl, by decide, ?_⟩)))
      · rw [eM]
        unfold atI ixN
        rw [if_pos (by decide), if_pos (by simp)]
        rfl
      · refine k1 l "size" _ _ ?_ K2
        rw [eD, eM]
        rfl
    · have z := of_decide_eq_false z
      rw [List.length_map] at z
      rw [if_neg (by omega)] at eD
      refine SatSX.of (s_ret' (x_cb (x_cons (x_cb (x_cons (x_compM (Ts.map tgD) (fun d => match d with | .tup [a, b, c, .tup so, .tup ne] => .tup [a, b, c, .tup ((so.map fun d => D.tup [.str "source", d]) ++ ne.map fun d => D.tup [.str "target", d])] | d => d) (by rw [List.length_map]; exact sl_le (by omega)) (x_items (dd := .ref j) (sq28 hj2) (x_var rfl ⟨rfl, rfl⟩)) (fun x mx => ?_) ?_))))))
      · obtain ⟨r, mr, rfl⟩ := List.mem_map.mp mx
        refine ⟨_, rfl, x_call (x_cons (x_var rfl (x_nil (action_from_k (hr r mr) ⟨?_, rfl⟩))))⟩
        unfold rwG tgD inD
        simp only [List.map_map]
        rfl
      · have em : (Ts.map tgD).map (fun d => match d with | .tup [a, b, c, .tup so, .tup ne] => .tup [a, b, c, .tup ((so.map fun d => D.tup [.str "source", d]) ++ ne.map fun d => D.tup [.str "target", d])] | d => d) = Ts.map rwG := by
          rw [List.map_map]
          refine List.map_congr_left fun r _ => ?_
          show D.tup _ = _
          unfold rwG inD
          simp only [List.map_map]
          rfl
        rw [em]
        refine x_nil (x_some (d := .lst ((Ts.mergeSort leG).map rwG)) ?_ (x_nil (x_some (d := .tup ((Ts.mergeSort leG).map rwG)) rfl (k0 eD _ K2))))
        unfold dSortK0
        simp only []
        rw [show getL (.lst (Ts.map rwG)) h2 = some (Ts.map rwG) from rfl, Option.bind_some, if_pos ⟨fun x m => by
          obtain ⟨r, _, rfl⟩ := List.mem_map.mp m
          exact ⟨_, _, rfl⟩, by rw [List.length_map]; exact sl_le (by omega)⟩, sort_G]
end
end Vi

set_option Elab.async false
set_option linter.all false
set_option autoImplicit false
set_option maxRecDepth 100000
set_option maxHeartbeats 2000000
namespace Vi
open PySem PySem.Spec PyProof.Rows L2
open scoped Classical
local macro_rules | `(tactic| walk_at "x1") => `(tactic| with_reducible first
  | refine x_bin ?_ | refine x_tst ?_ | refine x_oB ?_ | refine x_c ?_ | refine s_seqA ?_ | refine s_seqU ?_ | refine s_seqE ?_ | refine s_seqN ?_ | refine s_seqD ?_ | refine s_seqF ?_ | refine s_seqL ?_ | refine s_asg' ?_ | refine s_if' ?_ | refine s_ret' ?_ | refine s_exp' ?_ | refine s_next ?_ | refine s_retN' ?_ | refine s_sub' ?_ | refine s_dsub' ?_ | refine s_setF' ?_ | refine s_ddel' ?_
  | refine x_cb ?_ | refine x_cons ?_ | refine x_nil ?_ | refine x_call ?_ | refine x_met ?_ | refine x_meth ?_ | refine x_make ?_ | refine x_fld ?_ | refine x_un ?_ | refine x_notT ?_ | refine x_andT ?_ | refine x_orT ?_ | refine x_and ?_ | refine x_or ?_ | refine x_not ?_ | refine x_if ?_
  | refine x_tup ?_ | refine x_lst ?_ | refine x_cel ?_ | refine x_dnew ?_ | refine x_sortIt ?_ | refine x_sl ?_ | refine x_noP ?_ | refine x_part ?_ | refine x_oI ?_ | refine x_mI ?_ | refine x_rng ?_ | refine x_yes ?_ | refine x_chn ?_ | refine x_fun ?_ | refine x_ok ?_)
local macro_rules | `(tactic| walk_at "x2") => `(tactic| first
  | ((with_reducible refine y_var ?_); refine ⟨_, rfl, ?_⟩)
  | ((with_reducible refine y_some ?_); refine ⟨_, rfl, ?_⟩)
  | ((with_reducible refine y_gP ?_); refine ⟨_, rfl, ?_⟩))
local macro_rules | `(tactic| walk_at "x") => `(tactic| repeat (first | walk_at "x1" | walk_at "x2" ))
local macro_rules | `(tactic| walk_at "nx") => `(tactic| (refine next_k (by assumption) (by assumption) (by first | decide | omega) (by first | decide | omega) ?_))
section
variable {h : Hap} {P : D → Hap → Prop} {E : EX} {Ts : List R5} {j d : Nat} {r : R5} {L : List Str}
theorem mgc_k {x2 x3 x4 x5 : Option D} {Q : Ps} {F : EXS} (eL : L = srtS (Ts.map (·.1))) (n : (Ts.map (·.1)).Nodup) (hl : Ts.length ≤ 70) (hr : ∀ r ∈ Ts, r.2.2.2.1.length ≤ 10 ∧ r.2.2.2.2.length ≤ 10)
    (hj : h[j]? = some (.lst (Ts.map tgD))) (k0 : dueG Ts = none → ∀ h', Kp h h' → Q.r (.tup ((Ts.mergeSort leG).map rwG)) h')
    (k1 : ∀ (l : Str) (z : String) e h', dueG Ts = some (l, Str.ofString z) → Kp h h' → F "GraphProblem" (gp27 z l) e h') : SatSX (mg27_c (e27 j L x2 x3 x4 x5) h) Q F := by
  unfold mg27_c
  have ks : ks28 (NG Ts) = Ts.map (·.1) := by rw [ks28, List.map_map]; rfl
  have nk : (ks28 (NG Ts)).Nodup := by rw [ks]; exact n
  have mL : ∀ x, x ∈ L ↔ x ∈ Ts.map (·.1) := fun x => by rw [eL]; exact srt_mem
  have lL : L.length = Ts.length := by rw [eL, srt_len, List.length_map]
  refine X.seq (s_asg' (x_dcompFM (Ts.map tgD) (fun _ => true) keyT neT (by rw [List.length_map]; exact sl_le (by omega)) (x_items (dd := .ref j) (sq28 hj) (x_var rfl ⟨rfl, rfl⟩)) (fun d m => ?_) ?_))
  · obtain ⟨r, mr, rfl⟩ := List.mem_map.mp m
    refine ⟨_, rfl, rfl, rfl, fun _ => x_bin (x_var rfl (x_c (x_some (d := .str r.1) rfl ⟨rfl, rfl, ?_⟩)))⟩
    exact x_bin (x_var rfl (x_c (x_some (d := .tup (r.2.2.2.2.map .str)) rfl ⟨rfl, rfl⟩)))
  have ed : ((Ts.map tgD).filter fun _ => true).foldl (fun acc x => putD acc (keyT x) (neT x)) [] = nD true (NG Ts) := by
    rw [show (Ts.map tgD).filter (fun _ => true) = Ts.map tgD from List.filter_eq_self.mpr fun _ _ => rfl, put_fold]
    · rw [List.nil_append, List.map_map]
      unfold nD
      rw [List.map_map]
      rfl
    · rw [List.map_nil, List.nil_append, List.map_map]
      have : Ts.map (keyT ∘ tgD) = (Ts.map (·.1)).map (Sum.inr : Str → Key) := by rw [List.map_map]; rfl
      rw [this]
      exact inr_nodup n
  rw [ed]
  have hd : (h ++ [Cel.dct (nD true (NG Ts))])[h.length]? = some (.dct (nD true (NG Ts))) := ge1 _ _
  have hj2 : (h ++ [Cel.dct (nD true (NG Ts))])[j]? = some (.lst (Ts.map tgD)) := app_at hj
  have hK : ∀ h', Kp (h ++ [Cel.dct (nD true (NG Ts))]) h' → Kp h h' := fun h' K => kp_app.trans K (by rw [List.length_append]; omega)
  generalize h ++ [Cel.dct (nD true (NG Ts))] = h2 at hd hj2 hK ⊢
  generalize h.length = d at hd ⊢
  refine X.seqX (X.forI (fun pre post e h' => h' = h2 ∧ ∃ (A B : List Str) (x3 : Option D), L = A ++ B ∧ pre = A.map .str ∧ post = B.map .str ∧ e = e27 j L x2 x3 (some (.ref d)) x5 ∧ ∀ l ∈ A, unkB Ts L l = false) ?_)
  refine x_mI (x_var rfl ⟨_, rfl, ⟨rfl, [], L, _, rfl, rfl, rfl, rfl, fun x m => absurd m List.not_mem_nil⟩, fun _ _ _ _ _ _ => rfl, ?_, ?_⟩)
  · rintro pre y post e h' hx ⟨rfl, A, B, x3, eA, rfl, eB, rfl, un⟩
    cases B with
    | nil => cases eB
    | cons l B =>
      injection eB with e1 e2
      subst e1 e2
      refine ⟨_, rfl, ?_⟩
      have ml : l ∈ ks28 (NG Ts) := by rw [ks]; exact (mL l).mp (by rw [eA]; simp)
      obtain ⟨r, mr, er⟩ := List.mem_map.mp ml
      have er : r.1 = l := er
      subst er
      obtain ⟨q, mq, eq⟩ := List.mem_map.mp mr
      have lr : r.2.length ≤ 10 := by rw [← eq]; exact (hr q mq).2
      have e3 : (r.2.map D.str).map (fun d => match d with | .str y => D.bl (!decide (y ∈ ks28 (NG Ts))) | d => d) = (r.2.map fun y => decide (y ∉ L)).map D.bl := by
        rw [List.map_map, List.map_map]
        refine List.map_congr_left fun y _ => ?_
        show D.bl (!decide (y ∈ ks28 (NG Ts))) = D.bl (decide (y ∉ L))
        rw [ks, ← decide_not, decide_eq_decide.mpr (not_congr (mL y))]
      refine X.ife (x_tst (x_cb (x_cons (x_compM (r.2.map .str) (fun d => match d with | .str y => D.bl (!decide (y ∈ ks28 (NG Ts))) | d => d) (by rw [List.length_map]; exact sl_le (by omega)) (x_items (dd := .tup (r.2.map .str)) rfl ?_) (fun x mx => ?_) ?_))))
      · refine x_bin (x_var rfl (x_var rfl (v28_sub hd (val_nD (wb := true) nk mr) ⟨rfl, rfl⟩)))
      · obtain ⟨y, my, rfl⟩ := List.mem_map.mp mx
        exact ⟨_, rfl, x_bin (x_var rfl (x_var rfl (v28_nin hd (nD_isSome nk y) ⟨rfl, rfl⟩)))⟩
      · rw [e3]
        refine x_nil (x_some (d := .bl (unkB Ts L r.1)) ?_ (x_oB ⟨fun z => ?_, fun z => SatSX.of (s_next ?_)⟩))
        · show (blsOf _).map _ = _
          rw [bls28, Option.map_some, List.any_map]
          unfold unkB
          rw [nbs_row nk mr]
          rfl
        · refine X.raise ?_
          refine x_cons (x_var (d := .str r.1) rfl ?_)
          refine x_cons (x_c (x_nil ⟨rfl, by decide, ?_⟩))
          refine k1 r.1 "unknown" _ _ ?_ (hK _ fun _ _ => rfl)
          unfold dueG dueL
          rw [← eL]
          have d1 : (L.find? fun l => decide (1 < L.count l)) = none := by
            rw [← adj_find (by rw [eL]; exact srt_pw _)]
            cases q : adj L with
            | none => rfl
            | some x =>
              rw [adj_find (by rw [eL]; exact srt_pw _)] at q
              exact absurd (by rw [eL]; exact srt_nodup.mpr n) (adj_some_not q)
          have d2 : L.find? (unkB Ts L) = some r.1 := by
            rw [List.find?_eq_some_iff_append]
            exact ⟨z, A, B, eA, fun a m => by rw [un a m]; rfl⟩
          rw [d1, d2]
        · exact ⟨rfl, A ++ [r.1], B, _, by rw [eA]; simp, by rw [List.map_append]; rfl, rfl, rfl, fun x m => (List.mem_append.mp m).elim (un x) fun m => by rw [List.mem_singleton.mp m]; exact z⟩
  · rintro e h' ⟨rfl, A, B, x3, eA, eP, eB, rfl, un⟩
    have : B = [] := List.map_eq_nil_iff.mp eB.symm
    subst this
    rw [List.append_nil] at eA
    subst eA
    exact mgd_k eL n un hl hr hj2 hd (fun z h' K => k0 z h' (hK _ K)) fun l z e h' w K => k1 l z e h' w (hK _ K)
theorem make_graph_k (hl : Ts.length ≤ 70) (hr : ∀ r ∈ Ts, r.2.2.2.1.length ≤ 10 ∧ r.2.2.2.2.length ≤ 10)
    (hj : h[j]? = some (.lst (Ts.map tgD))) (k0 : dueG Ts = none → ∀ h', Kp h h' → P (.tup ((Ts.mergeSort leG).map rwG)) h')
    (k1 : ∀ (l : Str) (z : String) h', dueG Ts = some (l, Str.ofString z) → Kp h h' → E "GraphProblem" (gp27 z l) h') : SatX (Mi.m_make_graph_2 [.ref j] h) P E := by
  unfold Mi.m_make_graph_2
  rw [show Mi.b_make_graph_2 = mSeq (mAsg (mCB dSorted (mCons (mComp (mI (mVar 0)) [6] (gNm 6) mYes (mBin dIx (mVar 6) (mC (.int 0)))) mNil)) (gNm 1)) mg27_b from rfl]
  refine X.fn (X.seq (s_asg' (x_cb (x_cons (x_compM (Ts.map tgD) hd5 (by rw [List.length_map]; exact sl_le (by omega)) (x_items (dd := .ref j) (sq28 hj) (x_var rfl ⟨rfl, rfl⟩)) (fun d md => ?_) ?_)))))
  · obtain ⟨r, mr, rfl⟩ := List.mem_map.mp md
    exact ⟨_, rfl, x_bin (x_var rfl (x_c (x_some (d := .str r.1) rfl ⟨rfl, rfl⟩)))⟩
  have ek : (Ts.map tgD).map hd5 = (Ts.map (·.1)).map .str := by rw [List.map_map, List.map_map]; rfl
  rw [ek]
  refine x_nil (x_some (d := .lst ((srtS (Ts.map (·.1))).map .str)) ?_ ?_)
  · show (getL (.lst ((Ts.map (·.1)).map .str)) h).bind (fun xs => if Srt xs then some (D.lst (xs.mergeSort leD)) else none) = _
    rw [show getL (.lst ((Ts.map (·.1)).map .str)) h = some ((Ts.map (·.1)).map .str) from rfl, Option.bind_some, if_pos (srt28 _ (by rw [List.length_map]; omega)), sort28]
    rfl
  obtain ⟨L, eL⟩ : ∃ L, L = srtS (Ts.map (·.1)) := ⟨_, rfl⟩
  rw [← eL]
  have pw : L.Pairwise leT := by rw [eL]; exact srt_pw _
  have lL : L.length = Ts.length := by rw [eL, srt_len, List.length_map]
  unfold mg27_b
  refine X.seqX (X.forI (fun pre post e h' => h' = h ∧ ∃ (A B : List (Str × Str)) (x2 x3 : Option D), L.zip (L.drop 1) = A ++ B ∧ pre = A.map prD27 ∧ post = B.map prD27 ∧ e = e27 j L x2 x3 none none ∧ ∀ p ∈ A, p.1 ≠ p.2) ?_)
  refine x_zp (x_cons (x_var rfl (x_cons (x_sl (x_var rfl (x_part (x_c (x_oI (x_noP ?_)))))))))
  refine x_some (d := .lst ((L.drop 1).map .str)) ?_ (x_nil ⟨_, _, L.map .str, (L.drop 1).map .str, rfl, rfl, rfl, ⟨rfl, [], _, _, _, rfl, rfl, zp_map _ _, rfl, fun x m => absurd m List.not_mem_nil⟩, fun _ _ _ _ _ _ => ⟨rfl, rfl⟩, ?_, ?_⟩)
  · unfold dSl
    simp only []
    rw [show getL (.lst (L.map .str)) h = some (L.map .str) from rfl, Option.map_some, cut1, List.map_drop]
  · rintro pre y post e h' hx ⟨rfl, A, B, x2, x3, eA, rfl, eB, rfl, ne⟩
    cases B with
    | nil => cases eB
    | cons p B =>
      injection eB with e1 e2
      subst e1 e2
      refine ⟨_, rfl, ?_⟩
      refine X.ife (x_tst (x_bin (x_var (d := .str p.1) rfl (x_var (d := .str p.2) rfl ?_))))
      refine x_some (d := .bl (decide (p.1 = p.2))) rfl (x_oB ⟨fun z => ?_, fun z => SatSX.of (s_next ?_)⟩)
      · have z := of_decide_eq_true z
        refine X.raise ?_
        refine x_cons (x_var (d := .str p.2) rfl ?_)
        refine x_cons (x_c (x_nil ⟨rfl, by decide, ?_⟩))
        refine k1 p.2 "duplicate" _ ?_ fun _ _ => rfl
        unfold dueG dueL
        rw [← eL]
        have d1 : (L.find? fun l => decide (1 < L.count l)) = some p.2 := by
          rw [← adj_find pw, adj_zip]
          have : (L.zip (L.drop 1)).find? (fun p => decide (p.1 = p.2)) = some p := by
            rw [List.find?_eq_some_iff_append]
            exact ⟨decide_eq_true z, A, B, eA, fun a m => by rw [decide_eq_false (ne a m)]; rfl⟩
          rw [this]
          rfl
        rw [d1]
      · have z := of_decide_eq_false z
        exact ⟨rfl, A ++ [p], B, _, _, by rw [eA]; simp, by rw [List.map_append]; rfl, rfl, rfl, fun x m => (List.mem_append.mp m).elim (ne x) fun m => by rw [List.mem_singleton.mp m]; exact z⟩
  · rintro e h' ⟨rfl, A, B, x2, x3, eA, eP, eB, rfl, ne⟩
    have : B = [] := List.map_eq_nil_iff.mp eB.symm
    subst this
    rw [List.append_nil] at eA
    have an : adj L = none := by
      rw [adj_zip, eA, List.find?_eq_none.mpr fun p m => by rw [decide_eq_false (ne p m)]; decide]
      rfl
    have n : (Ts.map (·.1)).Nodup := srt_nodup.mp (by rw [← eL]; exact adj_none pw an)
    exact mgc_k eL n hl hr hj k0 fun l z e h' w K => k1 l z h' w K
end
end Vi

set_option Elab.async false
set_option linter.all false
set_option autoImplicit false
set_option maxRecDepth 100000
set_option maxHeartbeats 2000000
namespace Vi
open PySem PySem.Spec PyProof.Rows L2
open scoped Classical
local macro_rules | `(tactic| walk_at "x1") => `(tactic| with_reducible first
  | refine x_bin ?_ | refine x_tst ?_ | refine x_oB ?_ | refine x_c ?_ | refine s_seqA ?_ | refine s_seqU ?_ | refine s_seqE ?_ | refine s_seqN ?_ | refine s_seqD ?_ | refine s_seqF ?_ | refine s_seqL ?_ | refine s_asg' ?_ | refine s_if' ?_ | refine s_ret' ?_ | refine s_exp' ?_ | refine s_next ?_ | refine s_retN' ?_ | refine s_sub' ?_ | refine s_dsub' ?_ | refine s_setF' ?_ | refine s_ddel' ?_
  | refine x_cb ?_ | refine x_cons ?_ | refine x_nil ?_ | refine x_call ?_ | refine x_met ?_ | refine x_meth ?_ | refine x_make ?_ | refine x_fld ?_ | refine x_un ?_ | refine x_notT ?_ | refine x_andT ?_ | refine x_orT ?_ | refine x_and ?_ | refine x_or ?_ | refine x_not ?_ | refine x_if ?_
  | refine x_tup ?_ | refine x_lst ?_ | refine x_cel ?_ | refine x_dnew ?_ | refine x_sortIt ?_ | refine x_sl ?_ | refine x_noP ?_ | refine x_part ?_ | refine x_oI ?_ | refine x_mI ?_ | refine x_rng ?_ | refine x_yes ?_ | refine x_chn ?_ | refine x_fun ?_ | refine x_ok ?_)
local macro_rules | `(tactic| walk_at "x2") => `(tactic| first
  | ((with_reducible refine y_var ?_); refine ⟨_, rfl, ?_⟩)
  | ((with_reducible refine y_some ?_); refine ⟨_, rfl, ?_⟩)
  | ((with_reducible refine y_gP ?_); refine ⟨_, rfl, ?_⟩))
local macro_rules | `(tactic| walk_at "x") => `(tactic| repeat (first | walk_at "x1" | walk_at "x2" ))
local macro_rules | `(tactic| walk_at "nx") => `(tactic| (refine next_k (by assumption) (by assumption) (by first | decide | omega) (by first | decide | omega) ?_))
section
variable {h : Hap} {P : D → Hap → Prop} {Ts : List R5} {j : Nat} {r : R5} {L : List Str}
def dueD : Option (Str × Str) → D
  | some (l, z) => .tup [.str l, .str z]
  | none => .non
theorem find_filter {α : Type} (p : α → Bool) : ∀ l : List α, l.find? p = (l.filter p).head?
  | [] => rfl
  | a :: l => by
    rw [List.find?_cons, List.filter_cons]
    cases e : p a with
    | true => rfl
    | false => exact find_filter p l
theorem find_least {p : Str → Bool} {x : Str} : ∀ {L : List Str}, L.Pairwise leT → L.find? p = some x → ∀ y ∈ L, p y = true → leT x y
  | a :: L, pw, e, y, my, py => by
    have q := List.pairwise_cons.mp pw
    rw [List.find?_cons] at e
    cases pa : p a with
    | true =>
      rw [pa] at e
      cases e
      rcases List.mem_cons.mp my with m | m
      · rw [m]; exact leT_refl _
      · exact q.1 y m
    | false =>
      rw [pa] at e
      rcases List.mem_cons.mp my with m | m
      · rw [m, pa] at py; cases py
      · exact find_least q.2 e y m py
theorem at27 {x : Str} {xs : List Str} : atI ((x :: xs).map D.str) 0 = some (.str x) := by
  unfold atI ixN
  rw [if_pos (by decide), if_pos (by simp)]
  rfl
noncomputable def unR (L : List Str) (r : R5) : Bool := decide ((r.2.2.2.2.filter fun y => decide (y ∉ L)).length > 0)
theorem unR_unk (n : (Ts.map (·.1)).Nodup) {r : R5} (m : r ∈ Ts) : unR L r = unkB Ts L r.1 := by
  have ks : ks28 (NG Ts) = Ts.map (·.1) := by rw [ks28, List.map_map]; rfl
  have e : nbs (NG Ts) r.1 = r.2.2.2.2 := nbs_row (by rw [ks]; exact n) (List.mem_map.mpr ⟨r, m, rfl⟩)
  unfold unR unkB
  rw [e, Bool.eq_iff_iff, decide_eq_true_iff, List.any_eq_true]
  show 0 < _ ↔ _
  rw [List.length_pos_iff_exists_mem]
  constructor
  · rintro ⟨x, mx⟩
    exact ⟨x, (List.mem_filter.mp mx).1, (List.mem_filter.mp mx).2⟩
  · rintro ⟨x, mx, ex⟩
    exact ⟨x, List.mem_filter.mpr ⟨mx, ex⟩⟩
theorem law_due_k (hl : Ts.length ≤ 70) (hr : ∀ r ∈ Ts, r.2.2.2.1.length ≤ 10 ∧ r.2.2.2.2.length ≤ 10)
    (hj : h[j]? = some (.lst (Ts.map tgD))) (k : ∀ h', Kp h h' → P (dueD (dueG Ts)) h') : Sat (Mi.m_law_due_8 [.ref j] h) P := by
  unfold Mi.m_law_due_8 Mi.b_law_due_8
  refine x_fun (s_seq (s_asg' (x_cb (x_cons (x_compM (Ts.map tgD) hd5 (by rw [List.length_map]; exact sl_le (by omega)) (x_items (dd := .ref j) (sq28 hj) (x_var rfl ⟨rfl, rfl⟩)) (fun d md => ?_) ?_)))))
  · obtain ⟨r, mr, rfl⟩ := List.mem_map.mp md
    exact ⟨_, rfl, x_bin (x_var rfl (x_c (x_some (d := .str r.1) rfl ⟨rfl, rfl⟩)))⟩
  have ek : (Ts.map tgD).map hd5 = (Ts.map (·.1)).map .str := by rw [List.map_map, List.map_map]; rfl
  rw [ek]
  refine x_nil (x_some (d := .lst ((srtS (Ts.map (·.1))).map .str)) ?_ ?_)
  · show (getL (.lst ((Ts.map (·.1)).map .str)) h).bind (fun xs => if Srt xs then some (D.lst (xs.mergeSort leD)) else none) = _
    rw [show getL (.lst ((Ts.map (·.1)).map .str)) h = some ((Ts.map (·.1)).map .str) from rfl, Option.bind_some, if_pos (srt28 _ (by rw [List.length_map]; omega)), sort28]
    rfl
  have hdue : dueG Ts = dueL Ts (srtS (Ts.map (·.1))) := rfl
  obtain ⟨L, eL⟩ : ∃ L, L = srtS (Ts.map (·.1)) := ⟨_, rfl⟩
  rw [← eL] at hdue ⊢
  have pw : L.Pairwise leT := by rw [eL]; exact srt_pw _
  have lL : L.length = Ts.length := by rw [eL, srt_len, List.length_map]
  have mL : ∀ x, x ∈ L ↔ x ∈ Ts.map (·.1) := fun x => by rw [eL]; exact srt_mem
  unfold dueL at hdue
  dsimp only
  refine s_seq (s_asg' (x_compFM (L.map .str) (fun d => match d with | .str x => decide (1 < L.count x) | _ => false) (fun d => d) (by rw [List.length_map]; exact sl_le (by omega)) (x_items (dd := .lst (L.map .str)) rfl (x_var rfl ⟨rfl, rfl⟩)) (fun d md => ?_) ?_))
  · obtain ⟨x, mx, rfl⟩ := List.mem_map.mp md
    refine ⟨_, rfl, x_tst (x_bin (x_met (x_var (d := .lst (L.map .str)) rfl ⟨rfl, x_cons (x_var (d := .str x) rfl (x_nil (x_gP (d := .int (L.count x : Nat)) ?_ (x_c ?_))))⟩)))⟩
    · unfold dCntT
      simp only []
      rw [show getL (.lst (L.map .str)) h = some (L.map .str) from rfl, Option.bind_some, strsOf_map]
      rfl
    · refine x_some (d := .bl (decide (((L.count x : Nat) : Int) > 1))) rfl (x_oB ⟨rfl, ?_, fun _ => x_var rfl ⟨rfl, rfl⟩⟩)
      rw [decide_eq_decide]
      omega
  have ef : ((L.map D.str).filter fun d => match d with | .str x => decide (1 < L.count x) | _ => false).map (fun d => d) = (L.filter fun x => decide (1 < L.count x)).map .str := by
    rw [List.map_id', List.filter_map]
    rfl
  rw [ef]
  dsimp only
  rw [find_filter] at hdue
  cases q : L.filter fun x => decide (1 < L.count x) with
  | cons x xs =>
    rw [q] at hdue
    refine s_seq (s_if' (x_tst (x_bin (x_cb (x_cons (x_var (d := .lst ((x :: xs).map .str)) rfl (x_nil (v_lenQ (xs := (x :: xs).map .str) rfl (fun z => by simp) (x_c ?_)))))))))
    refine x_some (d := .bl true) (congrArg (fun b => some (D.bl b)) (decide_eq_true (by simp))) (x_oB ⟨fun _ => ?_, fun z => nomatch z⟩)
    refine s_ret' (x_tup ?_)
    refine x_cons (x_bin (x_var (d := .lst ((x :: xs).map .str)) rfl (x_c (ix28 (xs := (x :: xs).map .str) (y := .str x) rfl at27 ?_))))
    refine x_cons (x_c (x_nil ⟨sl_le (show 2 ≤ 16777216 by decide), ?_⟩))
    have := k h fun _ _ => rfl
    rw [hdue] at this
    exact this
  | nil =>
    rw [q] at hdue
    have hdue : dueG Ts = match L.find? (unkB Ts L) with
      | some l => some (l, "unknown")
      | none => match L.find? (cycB Ts) with
        | some l => some (l, "cycle")
        | none => if 60 < L.length then some (L.headD "", "size") else none := hdue
    have n : (Ts.map (·.1)).Nodup := srt_nodup.mp (by
      rw [← eL]
      refine adj_none pw ?_
      rw [adj_find pw, find_filter, q]
      rfl)
    refine s_seq (s_if' (x_tst (x_bin (x_cb (x_cons (x_var (d := .lst []) rfl (x_nil (v_lenQ (xs := []) rfl (fun z => by simp) (x_c ?_)))))))))
    refine x_some (d := .bl false) rfl (x_oB ⟨fun z => (nomatch z), fun _ => s_next ?_⟩)
    dsimp only
    refine s_seq (s_asg' (x_cel (x_nil ⟨sl_le (show 0 ≤ 16777216 by decide), ?_⟩)))
    dsimp only
    have jl := (List.getElem?_eq_some_iff.mp hj).1
    refine s_seq (s_forI (fun pre post e h' => ∃ (A B : List R5) (x4 x8 : Option D), Ts = A ++ B ∧ pre = A.map tgD ∧ post = B.map tgD ∧ e = [some (.ref j), some (.lst (L.map .str)), some (.lst []), some (.ref h.length), x4, none, none, none, x8] ∧ h' = h ++ [.lst ((fk (unR L) A).map .str)]) ?_)
    refine x_mI (x_var rfl ⟨Ts.map tgD, sq28 (app_at hj), ⟨[], Ts, _, _, rfl, rfl, rfl, rfl, rfl⟩, ?_, ?_, ?_⟩)
    · rintro pre post e h' hx ⟨A, B, x4, x8, -, -, -, rfl, rfl⟩
      exact sq28 (app_at hj)
    · rintro pre y post e h' hx ⟨A, B, x4, x8, eT, rfl, eB, rfl, rfl⟩
      cases B with
      | nil => cases eB
      | cons r B =>
        injection eB with e1 e2
        subst e1 e2
        have mr : r ∈ Ts := by rw [eT]; simp
        have lA : A.length ≤ 70 := by have := congrArg List.length eT; rw [List.length_append] at this; omega
        have l2 := (hr r mr).2
        refine ⟨_, rfl, ?_⟩
        refine s_if' (x_gt0 (xs := []) (x_compFM (r.2.2.2.2.map .str) (fun d => match d with | .str y => decide (y ∉ L) | _ => false) (fun _ => .int 1) (by rw [List.length_map]; exact sl_le (by omega)) (x_items (dd := .tup (r.2.2.2.2.map .str)) rfl ?_) (fun x mx => ?_) ⟨_, rfl, ?_⟩))
        · refine x_bin (x_var (d := tgD r) rfl (x_c ?_))
          exact x_some (d := .tup (r.2.2.2.2.map .str)) rfl ⟨rfl, rfl⟩
        · obtain ⟨y, my, rfl⟩ := List.mem_map.mp mx
          refine ⟨_, rfl, x_tst (x_bin (x_var (d := .str y) rfl (x_var (d := .lst (L.map .str)) rfl ?_)))⟩
          refine x_some (d := .bl (!decide (y ∈ L))) (by unfold dNotIn; rw [in28]; rfl) (x_oB ⟨rfl, ?_, fun _ => x_c ⟨rfl, rfl⟩⟩)
          show (!decide (y ∈ L)) = decide (y ∉ L)
          by_cases m : y ∈ L <;> simp [m]
        · have e5 : decide ((((r.2.2.2.2.map D.str).filter fun d => match d with | .str y => decide (y ∉ L) | _ => false).map fun _ => D.int 1).length > 0) = unR L r := by
            unfold unR
            rw [List.length_map, List.filter_map, List.length_map]
            rfl
          rw [e5]
          refine ⟨fun z => ?_, fun z => s_next ?_⟩
          · refine s_exp' (x_met (x_var rfl ⟨isl28 (ge1 _ _), x_cons (x_bin (x_var (d := tgD r) rfl (x_c (x_some (d := .str r.1) rfl (x_nil ?_)))))⟩))
            have := fk_len (unR L) A
            refine v28_app (ge1 _ _) (by rw [List.length_map]; omega) ?_
            refine ⟨A ++ [r], B, _, _, by rw [eT]; simp, by rw [List.map_append]; rfl, rfl, rfl, ?_⟩
            rw [se1, fk_snoc, if_pos z, List.map_append]
            rfl
          · refine ⟨A ++ [r], B, _, _, by rw [eT]; simp, by rw [List.map_append]; rfl, rfl, rfl, ?_⟩
            rw [fk_snoc, if_neg (by rw [z]; decide)]
    rintro e h' ⟨A, B, x4, x8, eT, eA, eB, rfl, rfl⟩
    have : B = [] := List.map_eq_nil_iff.mp eB.symm
    subst this
    rw [List.append_nil] at eT
    subst eT
    have mU : ∀ x, x ∈ fk (unR L) Ts ↔ x ∈ L ∧ unkB Ts L x = true := fun x => by
      unfold fk
      rw [List.mem_map]
      constructor
      · rintro ⟨r, m, rfl⟩
        obtain ⟨m1, m2⟩ := List.mem_filter.mp m
        exact ⟨(mL _).mpr (List.mem_map.mpr ⟨r, m1, rfl⟩), by rw [← unR_unk n m1]; exact m2⟩
      · rintro ⟨m1, m2⟩
        obtain ⟨r, m3, rfl⟩ := List.mem_map.mp ((mL x).mp m1)
        exact ⟨r, List.mem_filter.mpr ⟨m3, by rw [unR_unk n m3]; exact m2⟩, rfl⟩
    have lU := fk_len (unR L) Ts
    dsimp only
    refine s_seq (s_if' (x_tst (x_bin (x_cb (x_cons (x_var rfl (x_nil (v_lenQ (gq28 (ge1 _ _)) (fun z => by simp) (x_c ?_)))))))))
    refine x_some (d := .bl (decide ((((fk (unR L) Ts).map D.str).length : Int) > 0))) rfl (x_oB ⟨fun z => ?_, fun z => s_next ?_⟩)
    · have z := of_decide_eq_true z
      rw [List.length_map] at z
      cases eU : fk (unR L) Ts with
      | nil => rw [eU] at z; simp at z
      | cons u us =>
        rw [eU] at mU
        have ml := mn_least u us
        obtain ⟨x, ex⟩ : ∃ x, L.find? (unkB Ts L) = some x := by
          cases q : L.find? (unkB Ts L) with
          | some x => exact ⟨x, rfl⟩
          | none =>
            have := List.find?_eq_none.mp q u ((mU u).mp List.mem_cons_self).1
            exact absurd ((mU u).mp List.mem_cons_self).2 this
        have em : mnS u us = x := leT_anti (ml.2 x ((mU x).mpr ⟨List.mem_of_find?_eq_some ex, List.find?_some ex⟩)) (find_least pw ex _ ((mU _).mp ml.1).1 ((mU _).mp ml.1).2)
        rw [ex] at hdue
        refine s_ret' (x_tup ?_)
        refine x_cons (x_cb (x_cons (x_var rfl (x_nil ?_))))
        refine x_some (d := .str (mnS u us)) ?_ (x_cons (x_c (x_nil ⟨sl_le (show 2 ≤ 16777216 by decide), ?_⟩)))
        · unfold dMinS
          simp only []
          rw [gl28 (ge1 _ _), Option.bind_some, strsOf_map]
          rfl
        · have := k (h ++ [Cel.lst ((u :: us).map .str)]) kp_app
          rw [hdue] at this
          rw [em]
          exact this
    · have z := of_decide_eq_false z
      rw [List.length_map] at z
      have eU : fk (unR L) Ts = [] := List.length_eq_zero_iff.mp (by omega)
      rw [eU] at mU ⊢
      have un : ∀ l ∈ L, unkB Ts L l = false := fun l m => by
        cases e : unkB Ts L l with
        | false => rfl
        | true => exact absurd ((mU l).mpr ⟨m, e⟩) List.not_mem_nil
      rw [List.find?_eq_none.mpr fun l m => by rw [un l m]; decide] at hdue
      have hdue : dueG Ts = match L.find? (cycB Ts) with
        | some l => some (l, "cycle")
        | none => if 60 < L.length then some (L.headD "", "size") else none := hdue
      dsimp only
      refine s_seq (s_asg' (x_call (x_cons (x_var rfl (x_nil (law_graph_k (Ts := Ts) (app_at hj) (by omega) (fun r m => hr r m) fun c => ?_))))))
      have pG : ((Ts.mergeSort leG).map (·.1)).Perm (Ts.map (·.1)) := (perm_G (Ts := Ts)).map (·.1)
      have ks : ks28 (NG Ts) = Ts.map (·.1) := by rw [ks28, List.map_map]; rfl
      have g : Gk (Ts.mergeSort leG) := by
        refine ⟨pG.nodup_iff.mpr n, fun r m y my => ?_, by rw [perm_G.length_eq]; exact hl, fun r m => ⟨(hr r (mem_G.mp m)).2, (hr r (mem_G.mp m)).1⟩⟩
        have m := mem_G.mp m
        have e := un r.1 ((mL _).mpr (List.mem_map.mpr ⟨r, m, rfl⟩))
        unfold unkB at e
        rw [show nbs (NG Ts) r.1 = r.2.2.2.2 from nbs_row (by rw [ks]; exact n) (List.mem_map.mpr ⟨r, m, rfl⟩), List.any_eq_false] at e
        have := e y my
        exact pG.mem_iff.mpr (Classical.byContradiction fun w => this (decide_eq_true fun z => w ((mL y).mp z)))
      have en : nbs (NG (Ts.mergeSort leG)) = nbs (NG Ts) := funext fun x => nbs_perm perm_G (pG.nodup_iff.mpr n) x
      have mG : ∀ x, x ∈ (Ts.mergeSort leG).map (·.1) ↔ x ∈ L := fun x => (pG.mem_iff).trans (mL x).symm
      have hj2 : ∀ g, (h ++ [Cel.lst (([] : List Str).map .str)] ++ [c] ++ g)[j]? = some (.lst (Ts.map tgD)) := fun g => app_at (app_at (app_at hj))
      have hK : ∀ g, Kp h (h ++ [Cel.lst (([] : List Str).map .str)] ++ [c] ++ g) := fun g => by rw [List.append_assoc, List.append_assoc]; exact kp_app
      generalize Ts.mergeSort leG = G at g en mG ⊢
      generalize h ++ [Cel.lst (([] : List Str).map .str)] ++ [c] = h2 at hj2 hK ⊢
      have rch : ∀ (l : Str) (g' : Hap) (env : Env) (Q : Bool → Hap → Prop), l ∈ L → env[7]? = some (some (.str l)) → env[5]? = some (some (.tup (G.map rwG))) → (∀ c, Q (cycB Ts l) (h2 ++ g' ++ [c])) → Sat (mTst (mBin dIn (mVar 7) (mCall Mi.m_law_reach (mCons (mVar 5) (mCons (mCall Mi.m_law_needs (mCons (mVar 5) (mCons (mVar 7) mNil))) mNil)))) env (h2 ++ g')) Q := fun l g' env Q ml e7 e5 kq => by
        have nl := nbs_len g l
        refine x_tst (x_bin (x_var e7 (x_call (x_cons (x_var e5 (x_cons (x_call (x_cons (x_var e5 (x_cons (x_var e7 (x_nil ?_))))))))))))
        refine law_needs_k g (x_nil (law_reach_k g (by omega) fun F nF mF => ?_))
        have ec : decide (l ∈ F) = cycB Ts l := by
          rw [← rcB_cap g mF ((mG l).mpr ml)]
          unfold rcB cycB
          rw [en]
        refine x_some (d := .bl (cycB Ts l)) ?_ (x_oB (kq _))
        unfold dIn
        rw [in28r (ge1 _ _), ec]
        rfl
      dsimp only
      refine s_seq (s_asg' (x_compI (fun pre post h' acc => (∃ g', h' = h2 ++ g') ∧ ∃ A B : List Str, L = A ++ B ∧ pre = A.map .str ∧ post = B.map .str ∧ acc = (A.filter (cycB Ts)).map .str) ?_))
      refine x_mI (x_var (d := .lst (L.map .str)) rfl ⟨_, rfl, ⟨⟨[], by rw [List.append_nil]⟩, [], L, rfl, rfl, rfl, rfl⟩, fun _ _ _ _ _ _ => rfl, ?_, ?_⟩)
      · rintro pre y post h' acc hx ⟨⟨g', rfl⟩, A, B, eA, rfl, eB, rfl⟩
        cases B with
        | nil => cases eB
        | cons l B =>
          injection eB with e1 e2
          subst e1 e2
          refine ⟨_, rfl, rch l g' _ _ (by rw [eA]; simp) rfl rfl fun c => ⟨fun z => ⟨?_, ?_⟩, fun z => ?_⟩⟩
          · have l3 := List.length_filter_le (cycB Ts) A
            have := congrArg List.length eA
            rw [List.length_append] at this
            rw [List.length_map, sizeLine_eq]
            omega
          · refine x_var (d := .str l) rfl ⟨⟨g' ++ [c], by rw [List.append_assoc]⟩, A ++ [l], B, by rw [eA]; simp, by rw [List.map_append]; rfl, rfl, ?_⟩
            rw [List.filter_append, List.filter_cons_of_pos z, List.map_append]
            rfl
          · refine ⟨⟨g' ++ [c], by rw [List.append_assoc]⟩, A ++ [l], B, by rw [eA]; simp, by rw [List.map_append]; rfl, rfl, ?_⟩
            rw [List.filter_append, List.filter_cons_of_neg (by rw [z]; decide), List.filter_nil, List.append_nil]
      rintro h' acc ⟨⟨g', rfl⟩, A, B, eA, eP, eB, rfl⟩
      have : B = [] := List.map_eq_nil_iff.mp eB.symm
      subst this
      rw [List.append_nil] at eA
      subst eA
      rw [find_filter] at hdue
      dsimp only
      cases q2 : L.filter (cycB Ts) with
      | cons x xs =>
        rw [q2] at hdue
        refine s_seq (s_if' (x_tst (x_bin (x_cb (x_cons (x_var (d := .lst ((x :: xs).map .str)) rfl (x_nil (v_lenQ (xs := (x :: xs).map .str) rfl (fun z => by simp) (x_c ?_)))))))))
        refine x_some (d := .bl true) (congrArg (fun b => some (D.bl b)) (decide_eq_true (by simp))) (x_oB ⟨fun _ => ?_, fun z => nomatch z⟩)
        refine s_ret' (x_tup ?_)
        refine x_cons (x_bin (x_var (d := .lst ((x :: xs).map .str)) rfl (x_c (ix28 (xs := (x :: xs).map .str) (y := .str x) rfl at27 ?_))))
        refine x_cons (x_c (x_nil ⟨sl_le (show 2 ≤ 16777216 by decide), ?_⟩))
        have := k _ (hK g')
        rw [hdue] at this
        exact this
      | nil =>
        rw [q2] at hdue
        have hdue : dueG Ts = if 60 < L.length then some (L.headD "", ("size" : Str)) else none := hdue
        refine s_seq (s_if' (x_tst (x_bin (x_cb (x_cons (x_var (d := .lst []) rfl (x_nil (v_lenQ (xs := []) rfl (fun z => by simp) (x_c ?_)))))))))
        refine x_some (d := .bl false) rfl (x_oB ⟨fun z => (nomatch z), fun _ => s_next ?_⟩)
        dsimp only
        refine s_seq (s_if' (x_tst (x_bin (x_cb (x_cons (x_var rfl (x_nil (v_lenQ (gq28 (hj2 _)) (fun z => by simp) (x_c ?_)))))))))
        refine x_some (d := .bl (decide (((Ts.map tgD).length : Int) > 60))) rfl (x_oB ⟨fun z => ?_, fun z => s_next ?_⟩)
        · have z := of_decide_eq_true z
          rw [List.length_map] at z
          rw [if_pos (by omega)] at hdue
          have h0 : ∃ l M, L = l :: M := by
            cases L with
            | nil => simp at lL; omega
            | cons l M => exact ⟨l, M, rfl⟩
          obtain ⟨l, M, eM⟩ := h0
          dsimp only
          refine s_ret' (x_tup ?_)
          refine x_cons (x_bin (x_var (d := .lst (L.map .str)) rfl (x_c (ix28 (xs := L.map .str) (y := .str l) rfl (by rw [eM]; exact at27) ?_))))
          refine x_cons (x_c (x_nil ⟨sl_le (show 2 ≤ 16777216 by decide), ?_⟩))
          have := k _ (hK g')
          rw [hdue, eM] at this
          exact this
        · have z := of_decide_eq_false z
          rw [List.length_map] at z
          rw [if_neg (by omega)] at hdue
          dsimp only
          refine s_ret' (x_c ?_)
          have := k _ (hK g')
          rw [hdue] at this
          exact this
end
end Vi

set_option Elab.async false
set_option linter.all false
set_option autoImplicit false
set_option maxRecDepth 100000
set_option maxHeartbeats 2000000
namespace Vi
open PySem PySem.Spec PyProof.Rows L2
open scoped Classical
local macro_rules | `(tactic| walk_at "x1") => `(tactic| with_reducible first
  | refine x_bin ?_ | refine x_tst ?_ | refine x_oB ?_ | refine x_c ?_ | refine s_seqA ?_ | refine s_seqU ?_ | refine s_seqE ?_ | refine s_seqN ?_ | refine s_seqD ?_ | refine s_seqF ?_ | refine s_seqL ?_ | refine s_asg' ?_ | refine s_if' ?_ | refine s_ret' ?_ | refine s_exp' ?_ | refine s_next ?_ | refine s_retN' ?_ | refine s_sub' ?_ | refine s_dsub' ?_ | refine s_setF' ?_ | refine s_ddel' ?_
  | refine x_cb ?_ | refine x_cons ?_ | refine x_nil ?_ | refine x_call ?_ | refine x_met ?_ | refine x_meth ?_ | refine x_make ?_ | refine x_fld ?_ | refine x_un ?_ | refine x_notT ?_ | refine x_andT ?_ | refine x_orT ?_ | refine x_and ?_ | refine x_or ?_ | refine x_not ?_ | refine x_if ?_
  | refine x_tup ?_ | refine x_lst ?_ | refine x_cel ?_ | refine x_dnew ?_ | refine x_sortIt ?_ | refine x_sl ?_ | refine x_noP ?_ | refine x_part ?_ | refine x_oI ?_ | refine x_mI ?_ | refine x_rng ?_ | refine x_yes ?_ | refine x_chn ?_ | refine x_fun ?_ | refine x_ok ?_)
local macro_rules | `(tactic| walk_at "x2") => `(tactic| first
  | ((with_reducible refine y_var ?_); refine ⟨_, rfl, ?_⟩)
  | ((with_reducible refine y_some ?_); refine ⟨_, rfl, ?_⟩)
  | ((with_reducible refine y_gP ?_); refine ⟨_, rfl, ?_⟩))
local macro_rules | `(tactic| walk_at "x") => `(tactic| repeat (first | walk_at "x1" | walk_at "x2" ))
local macro_rules | `(tactic| walk_at "nx") => `(tactic| (refine next_k (by assumption) (by assumption) (by first | decide | omega) (by first | decide | omega) ?_))
section
variable {t h : Hap} {ns : List Int} {P : D → Hap → Prop} {env : Env}
abbrev ok27 (r : R5) : Prop := ((1 ≤ r.1.length ∧ r.1.length ≤ 100) ∧ r.2.2.1.length ≤ 4) ∧ okS r.1 ∧ okS r.2.1 ∧ (∀ a ∈ r.2.2.1, okS a) ∧ (∀ a ∈ r.2.2.2.1, okS a) ∧ ∀ a ∈ r.2.2.2.2, okS a
structure W27 (n m : Nat) (Ts : List R5) : Prop where
  ne : Ts ≠ []
  hl : Ts.length ≤ n
  hr : ∀ r ∈ Ts, ok27 r ∧ r.2.2.2.1.length ≤ 2 ∧ r.2.2.2.2.length ≤ m
theorem num27 : ∀ k : Nat, k < 100 → PyData.strOk (Str.ofString (toString (k : Int))) = true ∧ (Str.ofString (toString (k : Int))).length ≤ 20 ∧ ((k : Int).natAbs.log2 < 1920) := by decide +kernel
abbrev tN (k : Nat) : Str := "//z:t" ++ Str.ofString (toString (k : Int))
theorem tN_ok {k : Nat} (h : k < 100) : okS (tN k) := okS_app (by decide +kernel) (num27 k h).1
theorem tN_len {k : Nat} (h : k < 100) : 1 ≤ (tN k).length ∧ (tN k).length ≤ 100 := by
  have l5 : ("//z:t" : Str).length = 5 := by decide +kernel
  have := (num27 k h).2.1
  rw [len_app, l5]
  omega
theorem x_tN {k : Nat} {a : ME} (hk : k < 100) (ha : Sat (a env h) fun d h1 => d = .int (k : Int) ∧ P (.str (tN k)) h1) : Sat (mBin dAdd (mC (.str "//z:t")) (mCB dStr (mCons a mNil)) env h) P := by
  have n := num27 k hk
  have l5 : ("//z:t" : Str).length = 5 := by decide +kernel
  refine x_bin (x_c (x_cb (x_cons (ha.mono fun d h1 z => ?_))))
  obtain ⟨rfl, p⟩ := z
  refine x_nil (x_some (d := .str (Str.ofString (toString (k : Int)))) (if_pos n.2.2) ?_)
  exact v_adds (sl_le (by rw [l5]; omega)) p
theorem v_popAt {i : Nat} {xs : List D} {y : D} {r : Int} (e : h[i]? = some (.lst xs)) (h0 : 0 ≤ r) (h1 : r < 1000) (ey : xs[r.toNat]? = some y) (p : P y (h.set i (.lst (xs.eraseIdx r.toNat)))) : Sat (gPopAt (.ref i) [.int r] h) P := by
  unfold gPopAt
  simp only []
  rw [e]
  simp only []
  rw [if_pos ⟨h0, by omega⟩, ey]
  exact p
theorem er_map {α β : Type} (f : α → β) : ∀ (l : List α) (n : Nat), (l.map f).eraseIdx n = (l.eraseIdx n).map f
  | [], n => by simp
  | a :: l, 0 => rfl
  | a :: l, n + 1 => by rw [List.map_cons, List.eraseIdx_cons_succ, List.eraseIdx_cons_succ, er_map f l n]; rfl
theorem er_perm {α : Type} : ∀ {l : List α} {n : Nat} {x : α}, l[n]? = some x → (x :: l.eraseIdx n).Perm l
  | a :: l, 0, x, e => by
    cases e
    exact List.Perm.refl _
  | a :: l, n + 1, x, e => by
    rw [List.eraseIdx_cons_succ]
    exact (List.Perm.swap a x _).trans ((er_perm (l := l) (n := n) (by simpa using e)).cons a)
theorem shuffled_k {i : Nat} {Ts : List R5} (s : St t h) (hn : ns.length ≤ 63) (hi : t[i]? = some (.lst (Ts.map tgD))) (hl : Ts.length ≤ 100)
    (k : ∀ (Rs : List R5) c h', Rs.Perm Ts → St (t ++ [c, .lst (Rs.map tgD)]) h' → P (.ref (t.length + 2)) h') : Sat (Mi.m_law_shuffled [.ref 0, scr ns, .ref (i + 1)] h) P := by
  unfold Mi.m_law_shuffled Mi.b_law_shuffled
  refine x_fun (s_seq (s_asg' (x_celL (x_cons (x_var rfl (x_nil ⟨_, _, rfl, gq28 ((s.at28 i).trans hi), ?_⟩))))))
  rw [s.len28]
  have s1 := s.app28 (.lst (Ts.map tgD))
  dsimp only
  refine s_seq (s_asg' (x_cel (x_nil ⟨sl_le (show 0 ≤ 16777216 by decide), ?_⟩)))
  rw [s1.len28]
  have s2 : St (t ++ [.lst (Ts.map tgD), .lst (([] : List R5).map tgD)]) (h ++ [Cel.lst (Ts.map tgD)] ++ [Cel.lst []]) := by
    have := s1.app28 (.lst (([] : List R5).map tgD))
    rw [List.append_assoc] at this
    exact this
  have l1 : (t ++ [Cel.lst (Ts.map tgD)]).length = t.length + 1 := by rw [List.length_append]; rfl
  rw [l1]
  generalize h ++ [Cel.lst (Ts.map tgD)] ++ [Cel.lst []] = h2 at s2 ⊢
  dsimp only
  have il : i < t.length := (List.getElem?_eq_some_iff.mp hi).1
  have gT : ∀ {a b : Cel} {h' : Hap}, St (t ++ [a, b]) h' → h'[i + 1]? = some (.lst (Ts.map tgD)) := fun s' => (s'.at28 i).trans (by rw [List.getElem?_append_left il]; exact hi)
  have gA : ∀ {a b : Cel} {h' : Hap}, St (t ++ [a, b]) h' → h'[t.length + 1]? = some a := fun s' => (s'.at28 t.length).trans (by rw [List.getElem?_append_right (Nat.le_refl _), Nat.sub_self]; rfl)
  have gB : ∀ {a b : Cel} {h' : Hap}, St (t ++ [a, b]) h' → h'[t.length + 1 + 1]? = some b := fun s' => (s'.at28 (t.length + 1)).trans (by rw [List.getElem?_append_right (by omega), show t.length + 1 - t.length = 1 by omega]; rfl)
  have sA : ∀ {a b : Cel} {h' : Hap} (c : Cel), St (t ++ [a, b]) h' → St (t ++ [c, b]) (h'.set (t.length + 1) c) := fun c s' => by
    have := s'.set28 t.length c
    rw [List.set_append_right _ _ (Nat.le_refl _), Nat.sub_self] at this
    exact this
  have sB : ∀ {a b : Cel} {h' : Hap} (c : Cel), St (t ++ [a, b]) h' → St (t ++ [a, c]) (h'.set (t.length + 1 + 1) c) := fun c s' => by
    have := s'.set28 (t.length + 1) c
    rw [List.set_append_right _ _ (by omega), show t.length + 1 - t.length = 1 by omega] at this
    exact this
  refine s_seq (s_forI (fun pre post e h' => ∃ (Lf Rs : List R5) (x5 : Option D), e = [some (.ref 0), some (scr ns), some (.ref (i + 1)), some (.ref (t.length + 1)), some (.ref (t.length + 1 + 1)), x5] ∧ St (t ++ [.lst (Lf.map tgD), .lst (Rs.map tgD)]) h' ∧ (Rs ++ Lf).Perm Ts ∧ Rs.length = pre.length) ?_)
  refine lenR28 rfl (gq28 (gT s2)) (fun z => by simp) (by rw [List.length_map]; omega) ?_
  rw [List.length_map]
  refine ⟨⟨Ts, [], _, rfl, s2, List.Perm.refl _, rfl⟩, fun _ _ _ _ _ _ => trivial, ?_, ?_⟩
  · rintro pre y post e h' hx ⟨Lf, Rs, x5, rfl, s3, pm, lR⟩
    obtain ⟨rfl, hk⟩ := rng28 hx
    have hk : pre.length < Ts.length := hk
    have lF : Rs.length + Lf.length = Ts.length := by rw [← List.length_append]; exact pm.length_eq
    refine ⟨_, rfl, ?_⟩
    refine s_exp' (x_met (x_var rfl ⟨isl28 (gB s3), x_cons (x_met (x_var rfl ⟨isl28 (gA s3), ?_⟩))⟩))
    refine x_cons (x_call (x_cons (x_var rfl (x_cons (x_var rfl (x_cons (x_cb (x_cons (x_var rfl (x_nil (v_lenQ (gq28 (gA s3)) (fun z => by simp) (x_nil ?_))))))))))))
    refine next_k s3 hn (by rw [List.length_map]; omega) (by rw [List.length_map]; omega) fun r h4 r0 r1 s4 => ?_
    rw [List.length_map] at r1
    have rl : r.toNat < Lf.length := by omega
    refine x_nil (v_popAt (gA s4) r0 (by omega) (y := tgD Lf[r.toNat]) (by rw [List.getElem?_map, List.getElem?_eq_getElem rl]; rfl) ?_)
    rw [er_map]
    have s5 := sA (.lst ((Lf.eraseIdx r.toNat).map tgD)) s4
    refine x_nil (v28_app (gB s5) (by rw [List.length_map]; omega) ?_)
    have s6 := sB (.lst (Rs.map tgD ++ [tgD Lf[r.toNat]])) s5
    refine ⟨Lf.eraseIdx r.toNat, Rs ++ [Lf[r.toNat]], _, rfl, ?_, ?_, by rw [List.length_append, List.length_append, lR]; rfl⟩
    · have e2 : (Rs ++ [Lf[r.toNat]]).map tgD = Rs.map tgD ++ [tgD Lf[r.toNat]] := by rw [List.map_append]; rfl
      rw [e2]
      exact s6
    · rw [List.append_assoc]
      exact ((er_perm (List.getElem?_eq_getElem rl)).append_left Rs).trans pm
  · rintro e h' ⟨Lf, Rs, x5, rfl, s3, pm, lR⟩
    have lr : (rngL 0 Ts.length).length = Ts.length := by simp [rngL]
    have lR : Rs.length = (rngL 0 Ts.length).length := lR
    have lF : Rs.length + Lf.length = Ts.length := by rw [← List.length_append]; exact pm.length_eq
    have : Lf = [] := List.length_eq_zero_iff.mp (by omega)
    subst this
    rw [List.append_nil] at pm
    dsimp only
    exact s_ret' (x_var rfl (k Rs _ h' pm s3))
end
end Vi

set_option Elab.async false
set_option linter.all false
set_option autoImplicit false
set_option maxRecDepth 100000
set_option maxHeartbeats 2000000
namespace Vi
open PySem PySem.Spec PyProof.Rows L2
open scoped Classical
local macro_rules | `(tactic| walk_at "x1") => `(tactic| with_reducible first
  | refine x_bin ?_ | refine x_tst ?_ | refine x_oB ?_ | refine x_c ?_ | refine s_seqA ?_ | refine s_seqU ?_ | refine s_seqE ?_ | refine s_seqN ?_ | refine s_seqD ?_ | refine s_seqF ?_ | refine s_seqL ?_ | refine s_asg' ?_ | refine s_if' ?_ | refine s_ret' ?_ | refine s_exp' ?_ | refine s_next ?_ | refine s_retN' ?_ | refine s_sub' ?_ | refine s_dsub' ?_ | refine s_setF' ?_ | refine s_ddel' ?_
  | refine x_cb ?_ | refine x_cons ?_ | refine x_nil ?_ | refine x_call ?_ | refine x_met ?_ | refine x_meth ?_ | refine x_make ?_ | refine x_fld ?_ | refine x_un ?_ | refine x_notT ?_ | refine x_andT ?_ | refine x_orT ?_ | refine x_and ?_ | refine x_or ?_ | refine x_not ?_ | refine x_if ?_
  | refine x_tup ?_ | refine x_lst ?_ | refine x_cel ?_ | refine x_dnew ?_ | refine x_sortIt ?_ | refine x_sl ?_ | refine x_noP ?_ | refine x_part ?_ | refine x_oI ?_ | refine x_mI ?_ | refine x_rng ?_ | refine x_yes ?_ | refine x_chn ?_ | refine x_fun ?_ | refine x_ok ?_)
local macro_rules | `(tactic| walk_at "x2") => `(tactic| first
  | ((with_reducible refine y_var ?_); refine ⟨_, rfl, ?_⟩)
  | ((with_reducible refine y_some ?_); refine ⟨_, rfl, ?_⟩)
  | ((with_reducible refine y_gP ?_); refine ⟨_, rfl, ?_⟩))
local macro_rules | `(tactic| walk_at "x") => `(tactic| repeat (first | walk_at "x1" | walk_at "x2" ))
local macro_rules | `(tactic| walk_at "nx") => `(tactic| (refine next_k (by assumption) (by assumption) (by first | decide | omega) (by first | decide | omega) ?_))
section
variable {t h : Hap} {ns : List Int} {P : D → Hap → Prop} {env : Env}
theorem z0_ok : okS "//z:t0" := by decide +kernel
theorem join_ok : okS "join" ∧ okS "sort" := ⟨by decide +kernel, by decide +kernel⟩
theorem rngV {i : Nat} {j : Nat} {P : List D × (Hap → Prop) → Hap → Prop} (e0 : env[i]? = some (some (.int (j : Int)))) (hl : j ≤ 1000) (p : P (rngL 0 j, fun _ => True) h) : Sat (mRng rng1 (mCons (mVar i) mNil) env h) P := by
  with_reducible refine x_rng ?_
  with_reducible refine x_cons ?_
  with_reducible refine x_var e0 ?_
  with_reducible refine x_nil ?_
  with_reducible refine x_rng1 (by omega) ?_
  rw [Int.toNat_natCast]
  exact p
theorem chain_k {many : Nat} {last : Int} (m1 : 1 ≤ many) (m2 : many ≤ 70) (l0 : 0 ≤ last) (l1 : last < 2) (k : ∀ Ts : List R5, W27 70 1 Ts → Ts.length = many → P (.ref h.length) (h ++ [.lst (Ts.map tgD)])) : Sat (Mi.m_law_chain [.int (many : Int), .int last] h) P := by
  unfold Mi.m_law_chain Mi.b_law_chain
  with_reducible refine x_fun ?_
  with_reducible refine s_seq ?_
  with_reducible refine s_asg' ?_
  with_reducible refine x_cel ?_
  with_reducible refine x_nil ?_
  refine ⟨sl_le (show 0 ≤ 16777216 by decide), ?_⟩
  dsimp only
  with_reducible refine s_seq ?_
  with_reducible refine s_forI (fun pre post e h' => ∃ (Ts : List R5) (x3 x4 : Option D), e = [some (.int (many : Int)), some (.int last), some (.ref h.length), x3, x4] ∧ h' = h ++ [.lst (Ts.map tgD)] ∧ Ts.length = pre.length ∧ ∀ r ∈ Ts, ok27 r ∧ r.2.2.2.1.length ≤ 2 ∧ r.2.2.2.2.length ≤ 1) ?_
  with_reducible refine rngV (i := 0) (j := many) ?_ (by omega) ?_
  · rfl
  refine ⟨⟨[], _, _, rfl, rfl, rfl, fun r m => absurd m List.not_mem_nil⟩, fun _ _ _ _ _ _ => trivial, ?_, ?_⟩
  · rintro pre y post e h' hx ⟨Ts, x3, x4, rfl, rfl, lT, cT⟩
    obtain ⟨rfl, hk⟩ := rng28 hx
    have hk : pre.length < many := hk
    refine ⟨_, rfl, ?_⟩
    refine s_seq (s_asg' (x_tup (x_cons (x_tN (k := pre.length + 1) (by omega) ?_))))
    refine x_bin (x_var rfl (x_c ?_))
    refine x_some (d := .int ((pre.length + 1 : Nat) : Int)) rfl ⟨rfl, x_nil ⟨sl_le (show 1 ≤ 16777216 by decide), ?_⟩⟩
    have fin : ∀ {Q : Ps} (ne : List Str), ne.length ≤ 1 → (∀ a ∈ ne, okS a) → (∀ e h', (∃ (Ts : List R5) (x3 x4 : Option D), e = [some (.int (many : Int)), some (.int last), some (.ref h.length), x3, x4] ∧ h' = h ++ [.lst (Ts.map tgD)] ∧ Ts.length = (pre ++ [D.int (pre.length : Int)]).length ∧ ∀ r ∈ Ts, ok27 r ∧ r.2.2.2.1.length ≤ 2 ∧ r.2.2.2.2.length ≤ 1) → Q.n e h') →
        SatS (mExp (mMet "list" gAppend (mVar 2) (mCons (mTup (mCons (mBin dAdd (mC (.str "//z:t")) (mCB dStr (mCons (mVar 3) mNil))) (mCons (mC (.str "join")) (mCons (mTup mNil) (mCons (mTup mNil) (mCons (mVar 4) mNil)))))) mNil)) [some (.int (many : Int)), some (.int last), some (.ref h.length), some (.int (pre.length : Int)), some (.tup (ne.map .str))] (h ++ [.lst (Ts.map tgD)])) Q := fun ne ln on kq => by
      refine s_exp' (x_met (x_var rfl ⟨isl28 (ge1 _ _), x_cons (x_tup (x_cons (x_tN (k := pre.length) (by omega) (x_var rfl ⟨rfl, ?_⟩))))⟩))
      refine x_cons (x_c (x_cons (x_tup (x_nil ⟨sl_le (show 0 ≤ 16777216 by decide), ?_⟩))))
      refine x_cons (x_tup (x_nil ⟨sl_le (show 0 ≤ 16777216 by decide), ?_⟩))
      refine x_cons (x_var rfl (x_nil ⟨sl_le (show 5 ≤ 16777216 by decide), ?_⟩))
      refine x_nil (v28_app (ge1 _ _) (by rw [List.length_map]; omega) ?_)
      rw [se1]
      refine kq _ _ ⟨Ts ++ [((tN pre.length, "join", [], [], ne) : R5)], _, _, rfl, ?_, by rw [List.length_append, List.length_append, lT]; rfl, fun r m => ?_⟩
      · rw [List.map_append]
        rfl
      · rcases List.mem_append.mp m with m | m
        · exact cT r m
        · rw [List.mem_singleton.mp m]
          exact ⟨⟨⟨tN_len (by omega), Nat.zero_le _⟩, tN_ok (by omega), join_ok.1, fun a m => absurd m List.not_mem_nil, fun a m => absurd m List.not_mem_nil, on⟩, Nat.zero_le _, ln⟩
    dsimp only
    refine s_seq (s_if' (x_tst (x_bin (x_var rfl (x_bin (x_var rfl (x_c ?_)))))))
    refine x_some (d := .int ((many : Int) - 1)) rfl ?_
    refine x_some (d := .bl (decide ((pre.length : Int) = (many : Int) - 1))) rfl (x_oB ⟨fun _ => ?_, fun _ => s_next (fin [tN (pre.length + 1)] (Nat.le_refl _) (fun a m => by rw [List.mem_singleton.mp m]; exact tN_ok (by omega)) fun _ _ q => q)⟩)
    refine s_asg' (x_bin (x_lst (x_cons (x_tup (x_cons (x_c (x_nil ⟨sl_le (show 1 ≤ 16777216 by decide), ?_⟩)))))))
    refine x_cons (x_tup (x_nil ⟨sl_le (show 0 ≤ 16777216 by decide), x_nil ⟨sl_le (show 2 ≤ 16777216 by decide), x_var rfl ?_⟩⟩))
    have : last = 0 ∨ last = 1 := by omega
    rcases this with rfl | rfl
    · exact ix28 (y := .tup ((["//z:t0"] : List Str).map .str)) rfl rfl (fin ["//z:t0"] (Nat.le_refl _) (fun a m => by rw [List.mem_singleton.mp m]; exact z0_ok) fun _ _ q => q)
    · exact ix28 (y := .tup (([] : List Str).map .str)) rfl rfl (fin [] (Nat.zero_le _) (fun a m => absurd m List.not_mem_nil) fun _ _ q => q)
  · rintro e h' ⟨Ts, x3, x4, rfl, rfl, lT, cT⟩
    have lr : (rngL 0 many).length = many := by simp [rngL]
    have lT : Ts.length = (rngL 0 many).length := lT
    dsimp only
    exact s_ret' (x_var rfl (k Ts ⟨List.ne_nil_of_length_pos (by omega), by omega, cT⟩ (by omega)))
end
end Vi

set_option Elab.async false
set_option linter.all false
set_option autoImplicit false
set_option maxRecDepth 100000
set_option maxHeartbeats 2000000
namespace Vi
open PySem PySem.Spec PyProof.Rows L2
open scoped Classical
local macro_rules | `(tactic| walk_at "x1") => `(tactic| with_reducible first
  | refine x_bin ?_ | refine x_tst ?_ | refine x_oB ?_ | refine x_c ?_ | refine s_seqA ?_ | refine s_seqU ?_ | refine s_seqE ?_ | refine s_seqN ?_ | refine s_seqD ?_ | refine s_seqF ?_ | refine s_seqL ?_ | refine s_asg' ?_ | refine s_if' ?_ | refine s_ret' ?_ | refine s_exp' ?_ | refine s_next ?_ | refine s_retN' ?_ | refine s_sub' ?_ | refine s_dsub' ?_ | refine s_setF' ?_ | refine s_ddel' ?_
  | refine x_cb ?_ | refine x_cons ?_ | refine x_nil ?_ | refine x_call ?_ | refine x_met ?_ | refine x_meth ?_ | refine x_make ?_ | refine x_fld ?_ | refine x_un ?_ | refine x_notT ?_ | refine x_andT ?_ | refine x_orT ?_ | refine x_and ?_ | refine x_or ?_ | refine x_not ?_ | refine x_if ?_
  | refine x_tup ?_ | refine x_lst ?_ | refine x_cel ?_ | refine x_dnew ?_ | refine x_sortIt ?_ | refine x_sl ?_ | refine x_noP ?_ | refine x_part ?_ | refine x_oI ?_ | refine x_mI ?_ | refine x_rng ?_ | refine x_yes ?_ | refine x_chn ?_ | refine x_fun ?_ | refine x_ok ?_)
local macro_rules | `(tactic| walk_at "x2") => `(tactic| first
  | ((with_reducible refine y_var ?_); refine ⟨_, rfl, ?_⟩)
  | ((with_reducible refine y_some ?_); refine ⟨_, rfl, ?_⟩)
  | ((with_reducible refine y_gP ?_); refine ⟨_, rfl, ?_⟩))
local macro_rules | `(tactic| walk_at "x") => `(tactic| repeat (first | walk_at "x1" | walk_at "x2" ))
local macro_rules | `(tactic| walk_at "nx") => `(tactic| (refine next_k (by assumption) (by assumption) (by first | decide | omega) (by first | decide | omega) ?_))
section
variable {t h : Hap} {ns : List Int} {P : D → Hap → Prop} {env : Env} {Ts Rs : List R5} {i : Nat}
theorem lay_tg : ∀ {A : List R5}, (∀ r ∈ A, ok27 r) → ∃ ps, D.pys (A.map tgD) = some ps ∧ PyData.canLayAll0 ps = true ∧ PyData.depthAll ps ≤ 4
  | [], _ => ⟨[], rfl, rfl, by simp [PyData.depthAll]⟩
  | r :: A, o => by
    obtain ⟨ps, e1, e2, e3⟩ := lay_tg (A := A) fun x m => o x (List.mem_cons_of_mem _ m)
    obtain ⟨-, o1, o2, o3, o4, o5⟩ := o r List.mem_cons_self
    have o1 : PyData.strOk r.1 = true := o1
    have o2 : PyData.strOk r.2.1 = true := o2
    obtain ⟨p3, a1, a2, a3⟩ := lay_s o3
    obtain ⟨p4, b1, b2, b3⟩ := lay_s o4
    obtain ⟨p5, c1, c2, c3⟩ := lay_s o5
    have er : D.py (tgD r) = some (.tuple [.str r.1, .str r.2.1, .tuple p3, .tuple p4, .tuple p5]) := by simp [tgD, D.py, D.pys, a1, b1, c1]
    refine ⟨.tuple [.str r.1, .str r.2.1, .tuple p3, .tuple p4, .tuple p5] :: ps, by rw [List.map_cons, D.pys, er, e1], ?_, ?_⟩
    · simp [PyData.canLayAll0, PyData.canLay0, o1, o2, a2, b2, c2, e2]
    · simp [PyData.depthAll, PyData.depth]
      omega
theorem eq_tg {g : Nat} (o : ∀ r ∈ Rs, ok27 r) (hg : h[g]? = some (.lst (Rs.map tgD))) : dEq (.ref g) (.lst (Rs.map tgD)) h = some (.bl true) := by
  obtain ⟨ps, e1, e2, e3⟩ := lay_tg o
  have e4 : pyOf (.ref g) h = some (.list ps) := by
    unfold pyOf
    simp only []
    rw [hg]
    simp only []
    rw [e1]
    rfl
  have e5 : pyOf (.lst (Rs.map tgD)) h = some (.list ps) := by
    show D.py _ = _
    rw [D.py, e1]
    rfl
  have cl : PyData.canLay0 (.list ps) = true := by rw [PyData.canLay0]; exact e2
  have sh : SeqAt.shaped (.list ps) = true := by
    unfold SeqAt.shaped
    rw [cl, PyData.depth, decide_eq_true (by omega)]
    rfl
  unfold dEq eqO
  simp only []
  rw [e4, e5]
  simp only []
  rw [if_pos ⟨sh, sh⟩, SeqAt.eqv_refl _ cl]
  rfl
theorem leG_iff (a b : R5) : leG a b = true ↔ leT a.1 b.1 := le28_iff a.1 b.1
theorem sortG_perm (p : Rs.Perm Ts) (n : (Ts.map (·.1)).Nodup) : Rs.mergeSort leG = Ts.mergeSort leG := by
  have pw : ∀ A : List R5, (A.mergeSort leG).Pairwise fun a b => leT a.1 b.1 := fun A => by
    have := List.pairwise_mergeSort (le := leG) (fun a b c h1 h2 => (leG_iff a c).mpr (leT_trans ((leG_iff a b).mp h1) ((leG_iff b c).mp h2))) (fun a b => by
      rw [Bool.or_eq_true, leG_iff, leG_iff]
      exact leT_total _ _) A
    exact this.imp fun {a b} z => (leG_iff a b).mp z
  refine List.Perm.eq_of_pairwise (le := fun a b : R5 => leT a.1 b.1) (fun a b ma mb h1 h2 => ?_) (pw _) (pw _) ((List.mergeSort_perm _ _).trans (p.trans (List.mergeSort_perm _ _).symm))
  have e : a.1 = b.1 := leT_anti h1 h2
  have ma : a ∈ Ts := p.mem_iff.mp (List.mem_mergeSort.mp ma)
  have mb : b ∈ Ts := List.mem_mergeSort.mp mb
  have x := get_row n ma
  rw [e, get_row n mb] at x
  exact (Option.some.inj x).symm
def e34 (ns : List Int) (i : Nat) (x3 x4 x5 x6 x7 x8 x9 x10 x11 x12 x13 x14 x15 : Option D) : Env := [some (scr ns), some (.ref 0), some (.ref (i + 1)), x3, x4, x5, x6, x7, x8, x9, x10, x11, x12, x13, x14, x15]
noncomputable def tl34_13 : MS := (mRet (mAnd (mBin dIs (mVar 12) (mC .non)) (mAnd (mCall Mi.m_law_same (mCons (mVar 13) (mCons (mCall Mi.m_law_graph (mCons (mVar 2) mNil)) mNil))) (mBin dEq (mVar 10) (mVar 11)))))
noncomputable def tl34_12 : MS := (mSeq (mTryAs ["GraphProblem"] [] 14 (mAsg (mCall Mi.m_make_graph_2 (mCons (mVar 10) mNil)) (gNm 13)) (fun _ fs => (mSeq (mIfS (mOrT (mTst (mBin dIs (mVar 12) (mC .non))) (mNotT (mTst (mC (.bl true))))) (mRet (mC (.bl false))) mNext) (mRet (mAnd (mCall Mi.m_law_same (mCons (mTup (mCons (mXf fs "label") (mCons (mXf fs "reason") mNil))) (mCons (mVar 12) mNil))) (mBin dEq (mVar 10) (mVar 11)))))))
    tl34_13)
noncomputable def tl34_11 : MS := (mSeq (mAsg (mCall Mi.m_law_due_8 (mCons (mVar 2) mNil)) (gNm 12))
    tl34_12)
noncomputable def tl34_10 : MS := (mSeq (mAsg (mCB dListOf (mCons (mVar 10) mNil)) (gNm 11))
    tl34_11)
noncomputable def tl34_9 : MS := (mSeq (mAsg (mCall Mi.m_law_shuffled (mCons (mVar 1) (mCons (mVar 0) (mCons (mVar 2) mNil)))) (gNm 10))
    tl34_10)
theorem x_xf {fs : Option (List (Str × D))} {f : Str} {d : D} {P : D → Hap → Prop} (e : (fs.bind fun l => l.lookup f) = some d) (p : P d h) : Sat (mXf fs f env h) P := x_some e p
theorem end_k {x3 x4 x5 x6 x7 x8 x9 x10 x11 x12 x13 x14 x15 : Option D} {Q : Ps} (s : St t h) (hn : ns.length ≤ 63) (hi : t[i]? = some (.lst (Ts.map tgD))) (W : W27 70 10 Ts) (q : ∀ h, Q.r (.bl true) h) : SatS (tl34_9 (e34 ns i x3 x4 x5 x6 x7 x8 x9 x10 x11 x12 x13 x14 x15) h) Q := by
  have wl := W.hl
  unfold tl34_9
  refine s_seq (s_asg' (x_call (x_cons (x_var rfl (x_cons (x_var rfl (x_cons (x_var rfl (x_nil (shuffled_k s hn hi (by omega) fun Rs c h1 pm s1 => ?_))))))))))
  have il : i < t.length := (List.getElem?_eq_some_iff.mp hi).1
  have gT : h1[i + 1]? = some (.lst (Ts.map tgD)) := (s1.at28 i).trans (by rw [List.getElem?_append_left il]; exact hi)
  have gR : h1[t.length + 2]? = some (.lst (Rs.map tgD)) := (s1.at28 (t.length + 1)).trans (by rw [List.getElem?_append_right (by omega), show t.length + 1 - t.length = 1 by omega]; rfl)
  clear s1
  generalize t.length + 2 = g at gR ⊢
  have oR : ∀ r ∈ Rs, ok27 r := fun r m => (W.hr r (pm.mem_iff.mp m)).1
  have bT : ∀ r ∈ Ts, r.2.2.2.1.length ≤ 10 ∧ r.2.2.2.2.length ≤ 10 := fun r m => by have := W.hr r m; omega
  have bR : ∀ r ∈ Rs, r.2.2.2.1.length ≤ 10 ∧ r.2.2.2.2.length ≤ 10 := fun r m => bT r (pm.mem_iff.mp m)
  have lR : Rs.length ≤ 70 := by rw [pm.length_eq]; exact wl
  have dp := due_perm pm
  unfold tl34_10
  refine s_seq (s_asg' (x_cb (x_cons (x_var rfl (x_nil (x_some (d := .lst (Rs.map tgD)) ?_ ?_))))))
  · show (getQ (.ref g) h1).map D.lst = _
    rw [gq28 gR]
    rfl
  unfold tl34_11
  refine s_seq (s_asg' (x_call (x_cons (x_var rfl (x_nil (law_due_k wl bT gT fun h2 K2 => ?_))))))
  have gT2 : h2[i + 1]? = some (.lst (Ts.map tgD)) := by rw [K2 _ (List.getElem?_eq_some_iff.mp gT).1]; exact gT
  have gR2 : h2[g]? = some (.lst (Rs.map tgD)) := by rw [K2 _ (List.getElem?_eq_some_iff.mp gR).1]; exact gR
  clear K2 gT gR
  unfold tl34_12
  refine s_seq (X.tryAs ?_)
  refine X.set (x_cons (x_var rfl (x_nil (make_graph_k lR bR gR2 (fun ed h3 K3 => ?_) fun l z h3 ed K3 => ⟨List.mem_singleton.mpr rfl, ?_⟩))))
  · have gT3 : h3[i + 1]? = some (.lst (Ts.map tgD)) := by rw [K3 _ (List.getElem?_eq_some_iff.mp gT2).1]; exact gT2
    have gR3 : h3[g]? = some (.lst (Rs.map tgD)) := by rw [K3 _ (List.getElem?_eq_some_iff.mp gR2).1]; exact gR2
    rw [dp] at ed
    obtain ⟨n, -, -⟩ := due_none ed
    rw [ed, sortG_perm pm n]
    have pl := pl_tupG (A := Ts.mergeSort leG) (by rw [perm_G.length_eq]; omega) fun r m => ⟨by have := (W.hr r (mem_G.mp m)).1.1; omega, by have := bT r (mem_G.mp m); rw [in_len]; omega⟩
    unfold tl34_13
    refine s_ret' (x_and (x_bin (x_var rfl (x_c ?_))))
    refine x_some (d := .bl true) rfl ⟨true, rfl, fun _ => ?_, fun z => nomatch z⟩
    with_reducible refine x_and ?_
    with_reducible refine x_call ?_
    with_reducible refine x_cons ?_
    with_reducible refine x_var (d := .tup ((Ts.mergeSort leG).map rwG)) rfl ?_
    with_reducible refine x_cons ?_
    with_reducible refine x_call ?_
    with_reducible refine x_cons ?_
    with_reducible refine x_var (d := .ref (i + 1)) rfl ?_
    with_reducible refine x_nil ?_
    refine law_graph_k gT3 (by omega) bT fun c => ?_
    with_reducible refine x_nil ?_
    refine sa28 pl ⟨true, rfl, fun _ => ?_, fun z => nomatch z⟩
    refine x_bin (x_var rfl (x_var rfl ?_))
    exact x_some (eq_tg oR (app_at gR3)) (q _)
  · have gR3 : h3[g]? = some (.lst (Rs.map tgD)) := by rw [K3 _ (List.getElem?_eq_some_iff.mp gR2).1]; exact gR2
    rw [dp] at ed
    rw [ed]
    dsimp only
    with_reducible refine s_seq ?_
    with_reducible refine s_if' ?_
    with_reducible refine x_orT ?_
    with_reducible refine x_tst ?_
    with_reducible refine x_bin ?_
    with_reducible refine x_var (d := .tup [.str l, .str (Str.ofString z)]) ?_ ?_
    · rfl
    with_reducible refine x_c ?_
    with_reducible refine x_some (d := .bl false) ?_ ?_
    · rfl
    with_reducible refine x_oB ?_
    refine ⟨fun z => (nomatch z), fun _ => ?_⟩
    with_reducible refine x_notT ?_
    with_reducible refine x_tst ?_
    with_reducible refine x_c ?_
    with_reducible refine x_oB ?_
    refine ⟨fun z => absurd z (by decide), fun _ => ?_⟩
    with_reducible refine s_next ?_
    dsimp only
    have pl : (D.tup [.str l, .str (Str.ofString z)]).pl = true ∧ (D.tup [.str l, .str (Str.ofString z)]).sz < 12 := by
      have := pl_tupS (xs := [l, Str.ofString z]) (by simp)
      exact ⟨this.1, Nat.lt_of_le_of_lt (Nat.le_of_eq this.2) (by decide)⟩
    with_reducible refine s_ret' ?_
    with_reducible refine x_and ?_
    with_reducible refine x_call ?_
    with_reducible refine x_cons ?_
    with_reducible refine x_tup ?_
    with_reducible refine x_cons ?_
    with_reducible refine x_xf (d := .str l) ?_ ?_
    · rfl
    with_reducible refine x_cons ?_
    with_reducible refine x_xf (d := .str (Str.ofString z)) ?_ ?_
    · rfl
    with_reducible refine x_nil ?_
    refine ⟨sl_le (show 2 ≤ 16777216 by decide), ?_⟩
    with_reducible refine x_cons ?_
    with_reducible refine x_var (d := .tup [.str l, .str (Str.ofString z)]) ?_ ?_
    · rfl
    with_reducible refine x_nil ?_
    with_reducible refine sa28 (d := .tup [.str l, .str (Str.ofString z)]) pl ?_
    refine ⟨true, rfl, fun _ => ?_, fun z => nomatch z⟩
    with_reducible refine x_bin ?_
    with_reducible refine x_var (d := .ref g) ?_ ?_
    · rfl
    with_reducible refine x_var (d := .lst (Rs.map tgD)) ?_ ?_
    · rfl
    exact x_some (eq_tg oR gR3) (q _)
end
end Vi

set_option Elab.async false
set_option linter.all false
set_option autoImplicit false
set_option maxRecDepth 100000
set_option maxHeartbeats 2000000
namespace Vi
open PySem PySem.Spec PyProof.Rows L2
open scoped Classical
local macro_rules | `(tactic| walk_at "x1") => `(tactic| with_reducible first
  | refine x_bin ?_ | refine x_tst ?_ | refine x_oB ?_ | refine x_c ?_ | refine s_seqA ?_ | refine s_seqU ?_ | refine s_seqE ?_ | refine s_seqN ?_ | refine s_seqD ?_ | refine s_seqF ?_ | refine s_seqL ?_ | refine s_asg' ?_ | refine s_if' ?_ | refine s_ret' ?_ | refine s_exp' ?_ | refine s_next ?_ | refine s_retN' ?_ | refine s_sub' ?_ | refine s_dsub' ?_ | refine s_setF' ?_ | refine s_ddel' ?_
  | refine x_cb ?_ | refine x_cons ?_ | refine x_nil ?_ | refine x_call ?_ | refine x_met ?_ | refine x_meth ?_ | refine x_make ?_ | refine x_fld ?_ | refine x_un ?_ | refine x_notT ?_ | refine x_andT ?_ | refine x_orT ?_ | refine x_and ?_ | refine x_or ?_ | refine x_not ?_ | refine x_if ?_
  | refine x_tup ?_ | refine x_lst ?_ | refine x_cel ?_ | refine x_dnew ?_ | refine x_sortIt ?_ | refine x_sl ?_ | refine x_noP ?_ | refine x_part ?_ | refine x_oI ?_ | refine x_mI ?_ | refine x_rng ?_ | refine x_yes ?_ | refine x_chn ?_ | refine x_fun ?_ | refine x_ok ?_)
local macro_rules | `(tactic| walk_at "x2") => `(tactic| first
  | ((with_reducible refine y_var ?_); refine ⟨_, rfl, ?_⟩)
  | ((with_reducible refine y_some ?_); refine ⟨_, rfl, ?_⟩)
  | ((with_reducible refine y_gP ?_); refine ⟨_, rfl, ?_⟩))
local macro_rules | `(tactic| walk_at "x") => `(tactic| repeat (first | walk_at "x1" | walk_at "x2" ))
local macro_rules | `(tactic| walk_at "nx") => `(tactic| (refine next_k (by assumption) (by assumption) (by first | decide | omega) (by first | decide | omega) ?_))
section
variable {t h : Hap} {ns : List Int} {P : D → Hap → Prop} {env : Env} {Ts : List R5} {i : Nat} {r : R5}
theorem sub27 {r' : R5} {k : Int} (s : St t h) (hi : t[i]? = some (.lst (Ts.map tgD))) (k0 : 0 ≤ k) (k1 : k < Ts.length) :
    sIx (.ref (i + 1)) (.int k) (tgD r') h = some (h.set (i + 1) (.lst ((Ts.set k.toNat r').map tgD))) ∧ St (t.set i (.lst ((Ts.set k.toNat r').map tgD))) (h.set (i + 1) (.lst ((Ts.set k.toNat r').map tgD))) ∧ (t.set i (.lst ((Ts.set k.toNat r').map tgD)))[i]? = some (.lst ((Ts.set k.toNat r').map tgD)) := by
  refine ⟨?_, s.set28 i _, List.getElem?_set_self (List.getElem?_eq_some_iff.mp hi).1⟩
  unfold sIx
  simp only []
  rw [(s.at28 i).trans hi]
  simp only []
  unfold ixN
  rw [if_pos k0, if_pos (by rw [List.length_map]; exact k1), Option.map_some, List.map_set]
theorem W27.put {n m m' : Nat} {r' : R5} (W : W27 n m Ts) (k : Nat) (o : ok27 r' ∧ r'.2.2.2.1.length ≤ 2 ∧ r'.2.2.2.2.length ≤ m') (mm : m ≤ m') : W27 n m' (Ts.set k r') := by
  refine ⟨fun z => W.ne (by have := congrArg List.length z; rw [List.length_set] at this; exact List.length_eq_zero_iff.mp this), by rw [List.length_set]; exact W.hl, fun q mq => ?_⟩
  rcases List.mem_or_eq_of_mem_set mq with m1 | rfl
  · have := W.hr q m1
    exact ⟨this.1, this.2.1, Nat.le_trans this.2.2 mm⟩
  · exact o
theorem W27.mono {n n' m m' : Nat} (W : W27 n m Ts) (a : n ≤ n') (b : m ≤ m') : W27 n' m' Ts := ⟨W.ne, Nat.le_trans W.hl a, fun r m => ⟨(W.hr r m).1, (W.hr r m).2.1, Nat.le_trans (W.hr r m).2.2 b⟩⟩
theorem W27.add {n m : Nat} {r' : R5} (W : W27 n m Ts) (o : ok27 r' ∧ r'.2.2.2.1.length ≤ 2 ∧ r'.2.2.2.2.length ≤ m) : W27 (n + 1) m (Ts ++ [r']) := by
  refine ⟨by simp, by rw [List.length_append]; exact Nat.succ_le_succ W.hl, fun q mq => ?_⟩
  rcases List.mem_append.mp mq with m1 | m1
  · exact W.hr q m1
  · rw [List.mem_singleton.mp m1]; exact o
theorem rowE {ne : List Str} {a : ME} (e5 : env[5]? = some (some (tgD r))) (sa : Sat (a env h) fun d h1 => d = .tup (ne.map .str) ∧ P (tgD (r.1, r.2.1, r.2.2.1, r.2.2.2.1, ne)) h1) :
    Sat (mTup (mCons (mBin dIx (mVar 5) (mC (.int 0))) (mCons (mBin dIx (mVar 5) (mC (.int 1))) (mCons (mBin dIx (mVar 5) (mC (.int 2))) (mCons (mBin dIx (mVar 5) (mC (.int 3))) (mCons a mNil))))) env h) P := by
  refine x_tup ?_
  refine x_cons (x_bin (x_var e5 (x_c (x_some (d := .str r.1) rfl ?_))))
  refine x_cons (x_bin (x_var e5 (x_c (x_some (d := .str r.2.1) rfl ?_))))
  refine x_cons (x_bin (x_var e5 (x_c (x_some (d := .tup (r.2.2.1.map .str)) rfl ?_))))
  refine x_cons (x_bin (x_var e5 (x_c (x_some (d := .tup (r.2.2.2.1.map .str)) rfl ?_))))
  refine x_cons (sa.mono fun d h1 z => ?_)
  obtain ⟨rfl, p⟩ := z
  exact x_nil ⟨sl_le (show 5 ≤ 16777216 by decide), p⟩
theorem needE {P : D → Hap → Prop} (e5 : env[5]? = some (some (tgD r))) (p : P (.tup (r.2.2.2.2.map .str)) h) : Sat (mBin dIx (mVar 5) (mC (.int 4)) env h) P :=
  x_bin (x_var e5 (x_c (x_some (d := .tup (r.2.2.2.2.map .str)) rfl p)))
theorem last_at {xs : List Nat} (h1 : 1 ≤ xs.length) : ∃ c, atI xs (-1) = some c ∧ c ∈ xs := by
  have hl : xs.length - 1 < xs.length := by omega
  refine ⟨xs[xs.length - 1], ?_, List.getElem_mem hl⟩
  unfold atI ixN
  rw [if_neg (by decide), if_pos (by omega)]
  have : ((-1 : Int) + (xs.length : Int)).toNat = xs.length - 1 := by omega
  simp [this, hl]
theorem noE (o : ok27 r) : ∃ z : Str, okS z ∧ ∀ (env : Env) (h : Hap) (P : D → Hap → Prop), env[5]? = some (some (tgD r)) → P (.str z) h → Sat (mBin dAdd (mC (.str "//no:")) (mBin dIx (mBin dIx (mVar 5) (mC (.int 0))) (mUn dNeg (mC (.int 1)))) env h) P := by
  obtain ⟨⟨⟨l1, l2⟩, -⟩, o1, -⟩ := o
  obtain ⟨c, ec, mc⟩ := last_at (xs := r.1.cps.toList) (by rw [len_list]; exact l1)
  have ln : ("//no:" : Str).length = 5 := by decide +kernel
  refine ⟨"//no:" ++ ch c, okS_app (by decide +kernel) (okS_ch o1 mc), fun env h P e5 k => ?_⟩
  refine x_bin (x_c (x_bin (x_bin (x_var e5 (x_c (x_some (d := .str r.1) rfl (x_un (x_c (x_some (d := .int (-1)) rfl ?_)))))))))
  refine v_ixS (sl_le (by omega)) ec ?_
  exact v_adds (sl_le (by rw [ln, len_ch]; omega)) k
theorem addT {xs ys : List Str} {P : D → Hap → Prop} (hl : xs.length + ys.length ≤ 1000) (p : P (.tup ((xs ++ ys).map .str)) h) : Sat (ofO (dAdd (.tup (xs.map .str)) (.tup (ys.map .str)) h) h) P := by
  refine x_some (d := .tup ((xs ++ ys).map .str)) ?_ p
  unfold dAdd
  simp only []
  rw [if_pos (by rw [List.length_map, List.length_map, sizeLine_eq]; omega), List.map_append]
end
end Vi

set_option Elab.async false
set_option linter.all false
set_option autoImplicit false
set_option maxRecDepth 100000
set_option maxHeartbeats 2000000
namespace Vi
open PySem PySem.Spec PyProof.Rows L2
open scoped Classical
local macro_rules | `(tactic| walk_at "x1") => `(tactic| with_reducible first
  | refine x_bin ?_ | refine x_tst ?_ | refine x_oB ?_ | refine x_c ?_ | refine s_seqA ?_ | refine s_seqU ?_ | refine s_seqE ?_ | refine s_seqN ?_ | refine s_seqD ?_ | refine s_seqF ?_ | refine s_seqL ?_ | refine s_asg' ?_ | refine s_if' ?_ | refine s_ret' ?_ | refine s_exp' ?_ | refine s_next ?_ | refine s_retN' ?_ | refine s_sub' ?_ | refine s_dsub' ?_ | refine s_setF' ?_ | refine s_ddel' ?_
  | refine x_cb ?_ | refine x_cons ?_ | refine x_nil ?_ | refine x_call ?_ | refine x_met ?_ | refine x_meth ?_ | refine x_make ?_ | refine x_fld ?_ | refine x_un ?_ | refine x_notT ?_ | refine x_andT ?_ | refine x_orT ?_ | refine x_and ?_ | refine x_or ?_ | refine x_not ?_ | refine x_if ?_
  | refine x_tup ?_ | refine x_lst ?_ | refine x_cel ?_ | refine x_dnew ?_ | refine x_sortIt ?_ | refine x_sl ?_ | refine x_noP ?_ | refine x_part ?_ | refine x_oI ?_ | refine x_mI ?_ | refine x_rng ?_ | refine x_yes ?_ | refine x_chn ?_ | refine x_fun ?_ | refine x_ok ?_)
local macro_rules | `(tactic| walk_at "x2") => `(tactic| first
  | ((with_reducible refine y_var ?_); refine ⟨_, rfl, ?_⟩)
  | ((with_reducible refine y_some ?_); refine ⟨_, rfl, ?_⟩)
  | ((with_reducible refine y_gP ?_); refine ⟨_, rfl, ?_⟩))
local macro_rules | `(tactic| walk_at "x") => `(tactic| repeat (first | walk_at "x1" | walk_at "x2" ))
local macro_rules | `(tactic| walk_at "nx") => `(tactic| (refine next_k (by assumption) (by assumption) (by first | decide | omega) (by first | decide | omega) ?_))
section
variable {t h : Hap} {ns : List Int} {P : D → Hap → Prop} {env : Env} {Ts : List R5} {i : Nat} {r : R5}
theorem nx27 {m : ME} {P : D → Hap → Prop} (hn : ns.length ≤ 63) (e1 : env[1]? = some (some (.ref 0))) (e0 : env[0]? = some (some (scr ns))) (s : Sat (m env h) fun d h1 => ∃ many : Int, d = .int many ∧ 0 < many ∧ many < 1000000 ∧ St t h1 ∧ ∀ r h2, 0 ≤ r → r < many → St t h2 → P (.int r) h2) : Sat (mCall Mi.m_law_next (mCons (mVar 1) (mCons (mVar 0) (mCons m mNil))) env h) P := by
  refine x_call (x_cons (x_var e1 (x_cons (x_var e0 (x_cons (s.mono fun d h1 z => ?_))))))
  obtain ⟨many, rfl, a, b, st, k⟩ := z
  exact x_nil (next_k st hn a b k)
theorem nl27 {P : D → Hap → Prop} (hn : ns.length ≤ 63) (s : St t h) (hi : t[i]? = some (.lst (Ts.map tgD))) (ne : Ts ≠ []) (hl : Ts.length ≤ 1000) (e2 : env[2]? = some (some (.ref (i + 1)))) (e1 : env[1]? = some (some (.ref 0))) (e0 : env[0]? = some (some (scr ns))) (k : ∀ (r : Int) h2, 0 ≤ r → r < Ts.length → St t h2 → P (.int r) h2) : Sat (mCall Mi.m_law_next (mCons (mVar 1) (mCons (mVar 0) (mCons (mCB dLen (mCons (mVar 2) mNil)) mNil))) env h) P := by
  refine nx27 (t := t) hn e1 e0 (x_cb (x_cons (x_var e2 (x_nil (v_lenQ (gq28 ((s.at28 i).trans hi)) (fun z => by simp) ⟨_, rfl, ?_, ?_, s, fun r h2 a b s2 => k r h2 a (by rw [List.length_map] at b; exact b) s2⟩)))))
  · have := List.length_pos_iff.mpr ne
    rw [List.length_map]
    omega
  · rw [List.length_map]
    omega
theorem row27 {P : D → Hap → Prop} {k : Int} {a : Nat} (s : St t h) (hi : t[i]? = some (.lst (Ts.map tgD))) (k0 : 0 ≤ k) (k1 : k < Ts.length) (e2 : env[2]? = some (some (.ref (i + 1)))) (ea : env[a]? = some (some (.int k))) (p : ∀ r, r ∈ Ts → P (tgD r) h) : Sat (mBin dIx (mVar 2) (mVar a) env h) P := by
  have kl : k.toNat < Ts.length := by omega
  refine x_bin (x_var e2 (x_var ea (ix28 (gq28 ((s.at28 i).trans hi)) (y := tgD Ts[k.toNat]) ?_ (p _ (List.getElem_mem kl)))))
  unfold atI ixN
  rw [if_pos k0, if_pos (by rw [List.length_map]; exact k1)]
  simp [kl]
noncomputable def tl34_8 : MS := (mSeq (mFor (mRng rng1 (mCons (mBin dIx (mLst (mCons (mC (.int 0)) (mCons (mC (.int 0)) (mCons (mC (.int 0)) (mCons (mC (.int 1)) (mCons (mC (.int 2)) mNil)))))) (mCall Mi.m_law_next (mCons (mVar 1) (mCons (mVar 0) (mCons (mC (.int 5)) mNil))))) mNil)) (gNm 9) (mSeq (mAsg (mCall Mi.m_law_next (mCons (mVar 1) (mCons (mVar 0) (mCons (mCB dLen (mCons (mVar 2) mNil)) mNil)))) (gNm 4))
    (mSeq (mAsg (mBin dIx (mVar 2) (mVar 4)) (gNm 5))
    (mSub (mTup (mCons (mBin dIx (mVar 5) (mC (.int 0))) (mCons (mBin dIx (mVar 5) (mC (.int 1))) (mCons (mBin dIx (mVar 5) (mC (.int 2))) (mCons (mBin dIx (mVar 5) (mC (.int 3))) (mCons (mBin dAdd (mBin dIx (mVar 5) (mC (.int 4))) (mTup (mCons (mBin dAdd (mC (.str "//no:")) (mBin dIx (mBin dIx (mVar 5) (mC (.int 0))) (mUn dNeg (mC (.int 1))))) mNil))) mNil)))))) (mVar 2) (mVar 4)))))
    tl34_9)
theorem ph8_k {x3 x4 x5 x6 x7 x8 x9 x10 x11 x12 x13 x14 x15 : Option D} {Q : Ps} (s : St t h) (hn : ns.length ≤ 63) (hi : t[i]? = some (.lst (Ts.map tgD))) (W : W27 70 7 Ts) (q : ∀ h, Q.r (.bl true) h) : SatS (tl34_8 (e34 ns i x3 x4 x5 x6 x7 x8 x9 x10 x11 x12 x13 x14 x15) h) Q := by
  unfold tl34_8
  have hm : ∀ r : Int, 0 ≤ r → r < 5 → ∃ n : Nat, atI [D.int 0, .int 0, .int 0, .int 1, .int 2] r = some (.int (n : Int)) ∧ n ≤ 2 := fun r r0 r1 => by
    have : r = 0 ∨ r = 1 ∨ r = 2 ∨ r = 3 ∨ r = 4 := by omega
    rcases this with rfl | rfl | rfl | rfl | rfl
    · exact ⟨0, rfl, by decide⟩
    · exact ⟨0, rfl, by decide⟩
    · exact ⟨0, rfl, by decide⟩
    · exact ⟨1, rfl, by decide⟩
    · exact ⟨2, rfl, by decide⟩
  with_reducible refine s_seq ?_
  with_reducible refine s_forI (fun pre post e h' => ∃ (t : Hap) (Ts : List R5) (x4 x5 x9 : Option D), e = e34 ns i x3 x4 x5 x6 x7 x8 x9 x10 x11 x12 x13 x14 x15 ∧ St t h' ∧ t[i]? = some (.lst (Ts.map tgD)) ∧ W27 70 (7 + pre.length) Ts ∧ pre.length + post.length ≤ 2) ?_
  with_reducible refine x_rng ?_
  with_reducible refine x_cons ?_
  with_reducible refine x_bin ?_
  refine x_lst (x_cons (x_c (x_cons (x_c (x_cons (x_c (x_cons (x_c (x_cons (x_c (x_nil ⟨sl_le (show 5 ≤ 16777216 by decide), ?_⟩)))))))))))
  refine nx27 (t := t) hn rfl rfl (x_c ⟨5, rfl, by decide, by decide, s, fun r h2 r0 r1 s2 => ?_⟩)
  obtain ⟨n, en, n2⟩ := hm r r0 r1
  refine ix28 rfl en ?_
  with_reducible refine x_nil ?_
  with_reducible refine x_rng1 (by omega) ?_
  rw [Int.toNat_natCast]
  have lr : (rngL 0 n).length = n := by simp [rngL]
  refine ⟨⟨t, Ts, _, _, _, rfl, s2, hi, W, by show 0 + (rngL 0 n).length ≤ 2; omega⟩, fun _ _ _ _ _ _ => trivial, ?_, ?_⟩
  · rintro pre y post e h' hx ⟨t, Ts, x4, x5, x9, rfl, s3, hi, W, lp⟩
    have wl := W.hl
    have lp : pre.length + (post.length + 1) ≤ 2 := lp
    refine ⟨_, rfl, ?_⟩
    refine s_seq (s_asg' (nl27 hn s3 hi W.ne (by omega) rfl rfl rfl fun k h4 k0 k1 s4 => ?_))
    refine s_seq (s_asg' (row27 s4 hi k0 k1 rfl rfl fun r mr => ?_))
    have o := W.hr r mr
    obtain ⟨z, oz, kz⟩ := noE o.1
    refine s_sub' (rowE (r := r) (ne := r.2.2.2.2 ++ [z]) rfl (x_bin (needE (r := r) rfl (x_tup (x_cons (kz _ _ _ rfl (x_nil ⟨sl_le (show 1 ≤ 16777216 by decide), ?_⟩)))))))
    refine addT (xs := r.2.2.2.2) (ys := [z]) (by simp; omega) ⟨rfl, ?_⟩
    obtain ⟨e1, e2, e3⟩ := sub27 (r' := (r.1, r.2.1, r.2.2.1, r.2.2.2.1, r.2.2.2.2 ++ [z])) s4 hi k0 k1
    refine x_var rfl (x_var rfl ⟨_, e1, ?_⟩)
    refine ⟨_, _, _, _, _, rfl, e2, e3, W.put _ ⟨⟨o.1.1, o.1.2.1, o.1.2.2.1, o.1.2.2.2.1, o.1.2.2.2.2.1, fun a m => (List.mem_append.mp m).elim (o.1.2.2.2.2.2 a) fun m => by rw [List.mem_singleton.mp m]; exact oz⟩, o.2.1, ?_⟩ (by rw [List.length_append]; omega), by rw [List.length_append, List.length_singleton]; omega⟩
    have := o.2.2
    simp only [List.length_append, List.length_singleton]
    omega
  · rintro e h' ⟨t, Ts, x4, x5, x9, rfl, s3, hi, W, lp⟩
    exact end_k s3 hn hi (W.mono (Nat.le_refl _) (by have lp : (rngL 0 n).length + 0 ≤ 2 := lp; show 7 + (rngL 0 n).length ≤ 10; omega)) q
end
end Vi

set_option Elab.async false
set_option linter.all false
set_option autoImplicit false
set_option maxRecDepth 100000
set_option maxHeartbeats 2000000
namespace Vi
open PySem PySem.Spec PyProof.Rows L2
open scoped Classical
local macro_rules | `(tactic| walk_at "x1") => `(tactic| with_reducible first
  | refine x_bin ?_ | refine x_tst ?_ | refine x_oB ?_ | refine x_c ?_ | refine s_seqA ?_ | refine s_seqU ?_ | refine s_seqE ?_ | refine s_seqN ?_ | refine s_seqD ?_ | refine s_seqF ?_ | refine s_seqL ?_ | refine s_asg' ?_ | refine s_if' ?_ | refine s_ret' ?_ | refine s_exp' ?_ | refine s_next ?_ | refine s_retN' ?_ | refine s_sub' ?_ | refine s_dsub' ?_ | refine s_setF' ?_ | refine s_ddel' ?_
  | refine x_cb ?_ | refine x_cons ?_ | refine x_nil ?_ | refine x_call ?_ | refine x_met ?_ | refine x_meth ?_ | refine x_make ?_ | refine x_fld ?_ | refine x_un ?_ | refine x_notT ?_ | refine x_andT ?_ | refine x_orT ?_ | refine x_and ?_ | refine x_or ?_ | refine x_not ?_ | refine x_if ?_
  | refine x_tup ?_ | refine x_lst ?_ | refine x_cel ?_ | refine x_dnew ?_ | refine x_sortIt ?_ | refine x_sl ?_ | refine x_noP ?_ | refine x_part ?_ | refine x_oI ?_ | refine x_mI ?_ | refine x_rng ?_ | refine x_yes ?_ | refine x_chn ?_ | refine x_fun ?_ | refine x_ok ?_)
local macro_rules | `(tactic| walk_at "x2") => `(tactic| first
  | ((with_reducible refine y_var ?_); refine ⟨_, rfl, ?_⟩)
  | ((with_reducible refine y_some ?_); refine ⟨_, rfl, ?_⟩)
  | ((with_reducible refine y_gP ?_); refine ⟨_, rfl, ?_⟩))
local macro_rules | `(tactic| walk_at "x") => `(tactic| repeat (first | walk_at "x1" | walk_at "x2" ))
local macro_rules | `(tactic| walk_at "nx") => `(tactic| (refine next_k (by assumption) (by assumption) (by first | decide | omega) (by first | decide | omega) ?_))
section
theorem x_compC27 {env : Env} {h : Hap} {s : MI} {vs : List Nat} {g : MG} {c : MT} {e : ME} {P : D → Hap → Prop} (I : List D → List D → Hap → List D → Prop) (hs : Sat (s env h) fun s h1 => I [] s.1 h1 [] ∧ (∀ pre post h acc, s.1 = pre ++ post → I pre post h acc → s.2 h) ∧
      (∀ pre x post h acc, s.1 = pre ++ x :: post → I pre (x :: post) h acc → ∃ e1, g x (wipeE env vs) h = some e1 ∧ Sat (c e1 h) fun t h1 => (t = true → acc.length < sizeLine ∧ Sat (e e1 h1) fun y h2 => I (pre ++ [x]) post h2 (acc ++ [y])) ∧ (t = false → I (pre ++ [x]) post h1 acc)) ∧
      (∀ h acc, I s.1 [] h acc → P (.ref h.length) (h ++ [.lst acc]))) : Sat (mCompC s vs g c e env h) P := Sat.bind (hs.mono fun s h1 ⟨h0, hg, ht, he⟩ => by
  obtain ⟨xs, gd⟩ := s
  refine Sat.bindN ?_
  have go : ∀ (post pre : List D) (h : Hap) (acc : List D), xs = pre ++ post → I pre post h acc → Sat (compL gd vs g c e env post h acc) fun ys h2 => Sat (.ok (.ref h2.length) (h2 ++ [.lst ys])) P := by
    intro post
    induction post with
    | nil =>
      intro pre h acc q i
      unfold compL
      rw [if_pos (hg pre [] h acc q i)]
      rw [List.append_nil] at q
      subst q
      exact he h acc i
    | cons x post ih =>
      intro pre h acc q i
      unfold compL
      rw [if_pos (hg pre _ h acc q i)]
      obtain ⟨e1, q1, t⟩ := ht pre x post h acc q i
      rw [q1]
      refine Sat.bindN (t.mono fun t h1 z => ?_)
      cases t with
      | false => exact ih (pre ++ [x]) h1 acc (by simpa using q) (z.2 rfl)
      | true =>
        obtain ⟨hl, z⟩ := z.1 rfl
        refine Sat.bindN (z.mono fun y h2 z => ?_)
        rw [if_pos hl]
        exact ih (pre ++ [x]) h2 (acc ++ [y]) (by simpa using q) z
  exact go xs [] h1 [] rfl h0)
end
end Vi

set_option Elab.async false
set_option linter.all false
set_option autoImplicit false
set_option maxRecDepth 100000
set_option maxHeartbeats 2000000
namespace Vi
open PySem PySem.Spec PyProof.Rows L2
open scoped Classical
local macro_rules | `(tactic| walk_at "x1") => `(tactic| with_reducible first
  | refine x_bin ?_ | refine x_tst ?_ | refine x_oB ?_ | refine x_c ?_ | refine s_seqA ?_ | refine s_seqU ?_ | refine s_seqE ?_ | refine s_seqN ?_ | refine s_seqD ?_ | refine s_seqF ?_ | refine s_seqL ?_ | refine s_asg' ?_ | refine s_if' ?_ | refine s_ret' ?_ | refine s_exp' ?_ | refine s_next ?_ | refine s_retN' ?_ | refine s_sub' ?_ | refine s_dsub' ?_ | refine s_setF' ?_ | refine s_ddel' ?_
  | refine x_cb ?_ | refine x_cons ?_ | refine x_nil ?_ | refine x_call ?_ | refine x_met ?_ | refine x_meth ?_ | refine x_make ?_ | refine x_fld ?_ | refine x_un ?_ | refine x_notT ?_ | refine x_andT ?_ | refine x_orT ?_ | refine x_and ?_ | refine x_or ?_ | refine x_not ?_ | refine x_if ?_
  | refine x_tup ?_ | refine x_lst ?_ | refine x_cel ?_ | refine x_dnew ?_ | refine x_sortIt ?_ | refine x_sl ?_ | refine x_noP ?_ | refine x_part ?_ | refine x_oI ?_ | refine x_mI ?_ | refine x_rng ?_ | refine x_yes ?_ | refine x_chn ?_ | refine x_fun ?_ | refine x_ok ?_)
local macro_rules | `(tactic| walk_at "x2") => `(tactic| first
  | ((with_reducible refine y_var ?_); refine ⟨_, rfl, ?_⟩)
  | ((with_reducible refine y_some ?_); refine ⟨_, rfl, ?_⟩)
  | ((with_reducible refine y_gP ?_); refine ⟨_, rfl, ?_⟩))
local macro_rules | `(tactic| walk_at "x") => `(tactic| repeat (first | walk_at "x1" | walk_at "x2" ))
local macro_rules | `(tactic| walk_at "nx") => `(tactic| (refine next_k (by assumption) (by assumption) (by first | decide | omega) (by first | decide | omega) ?_))
section
variable {t h : Hap} {ns : List Int} {P : D → Hap → Prop} {env : Env} {Ts : List R5} {i : Nat} {r : R5}
theorem tEq {m : ME} {c : Int} {P : Bool → Hap → Prop} (s : Sat (m env h) fun d h1 => ∃ r : Int, d = .int r ∧ P (decide (r = c)) h1) : Sat (mTst (mBin dEq m (mC (.int c))) env h) P := by
  with_reducible refine x_tst ?_
  with_reducible refine x_bin ?_
  refine s.mono fun d h1 z => ?_
  obtain ⟨r, rfl, p⟩ := z
  with_reducible refine x_c ?_
  with_reducible refine x_some (d := .bl (decide (r = c))) ?_ ?_
  · rfl
  exact x_oB p
theorem none_ok : okS "//z:none" := by decide +kernel
theorem joinE {k : Nat} {ne : List Str} {z : String} {a : Nat} {b : ME} {P : D → Hap → Prop} (hk : k < 100) (ea : env[a]? = some (some (.int (k : Int)))) (sb : Sat (b env h) fun d h1 => d = .tup (ne.map .str) ∧ P (tgD (tN k, Str.ofString z, [], [], ne)) h1) :
    Sat (mTup (mCons (mBin dAdd (mC (.str "//z:t")) (mCB dStr (mCons (mVar a) mNil))) (mCons (mC (.str (Str.ofString z))) (mCons (mTup mNil) (mCons (mTup mNil) (mCons b mNil))))) env h) P := by
  refine x_tup (x_cons (x_tN (k := k) hk (x_var ea ⟨rfl, ?_⟩)))
  refine x_cons (x_c (x_cons (x_tup (x_nil ⟨sl_le (show 0 ≤ 16777216 by decide), ?_⟩))))
  refine x_cons (x_tup (x_nil ⟨sl_le (show 0 ≤ 16777216 by decide), ?_⟩))
  refine x_cons (sb.mono fun d h1 z => ?_)
  obtain ⟨rfl, p⟩ := z
  exact x_nil ⟨sl_le (show 5 ≤ 16777216 by decide), p⟩
theorem nilE {P : D → Hap → Prop} (p : P (.tup (([] : List Str).map .str)) h) : Sat (mTup mNil env h) P := x_tup (x_nil ⟨sl_le (show 0 ≤ 16777216 by decide), p⟩)
theorem okJ {k : Nat} {ne : List Str} (hk : k < 100) (on : ∀ a ∈ ne, okS a) : ok27 (tN k, "join", [], [], ne) := ⟨⟨tN_len hk, Nat.zero_le _⟩, tN_ok hk, join_ok.1, fun a m => absurd m List.not_mem_nil, fun a m => absurd m List.not_mem_nil, on⟩
noncomputable def tl34_7 : MS := (mSeq (mIfS (mAndT (mTst (mBin dEq (mVar 3) (mC (.int 5)))) (mTst (mBin dEq (mCall Mi.m_law_next (mCons (mVar 1) (mCons (mVar 0) (mCons (mC (.int 4)) mNil)))) (mC (.int 0))))) (mSeq (mAsg (mBin dAdd (mC (.int 59)) (mCall Mi.m_law_next (mCons (mVar 1) (mCons (mVar 0) (mCons (mC (.int 4)) mNil))))) (gNm 7))
    (mSeq (mAsg (mCompC (mRng rng1 (mCons (mVar 7) mNil)) [15] (gNm 15) mYes (mTup (mCons (mBin dAdd (mC (.str "//z:t")) (mCB dStr (mCons (mVar 15) mNil))) (mCons (mC (.str "join")) (mCons (mTup mNil) (mCons (mTup mNil) (mCons (mTup mNil) mNil))))))) (gNm 2))
    (mSeq (mAsg (mCall Mi.m_law_next (mCons (mVar 1) (mCons (mVar 0) (mCons (mVar 7) mNil)))) (gNm 4))
    (mSeq (mAsg (mBin dIx (mLst (mCons (mTup mNil) (mCons (mTup mNil) (mCons (mTup (mCons (mC (.str "//z:none")) mNil)) (mCons (mTup (mCons (mBin dAdd (mC (.str "//z:t")) (mCB dStr (mCons (mVar 4) mNil))) mNil)) mNil))))) (mCall Mi.m_law_next (mCons (mVar 1) (mCons (mVar 0) (mCons (mC (.int 4)) mNil))))) (gNm 8))
    (mSeq (mSub (mTup (mCons (mBin dAdd (mC (.str "//z:t")) (mCB dStr (mCons (mVar 4) mNil))) (mCons (mC (.str "join")) (mCons (mTup mNil) (mCons (mTup mNil) (mCons (mVar 8) mNil)))))) (mVar 2) (mVar 4))
    (mSeq (mIfS (mTst (mBin dEq (mCall Mi.m_law_next (mCons (mVar 1) (mCons (mVar 0) (mCons (mC (.int 3)) mNil)))) (mC (.int 0)))) (mAsg (mCall Mi.m_law_chain (mCons (mVar 7) (mCons (mCall Mi.m_law_next (mCons (mVar 1) (mCons (mVar 0) (mCons (mC (.int 2)) mNil)))) mNil))) (gNm 2)) mNext)
    (mIfS (mTst (mBin dEq (mCall Mi.m_law_next (mCons (mVar 1) (mCons (mVar 0) (mCons (mC (.int 4)) mNil)))) (mC (.int 0)))) (mExp (mMet "list" gAppend (mVar 2) (mCons (mBin dIx (mVar 2) (mCall Mi.m_law_next (mCons (mVar 1) (mCons (mVar 0) (mCons (mVar 7) mNil))))) mNil))) mNext))))))) mNext)
    tl34_8)
theorem ph7_k {ch : Int} {x4 x5 x6 x7 x8 x9 x10 x11 x12 x13 x14 x15 : Option D} {Q : Ps} (s : St t h) (hn : ns.length ≤ 63) (hi : t[i]? = some (.lst (Ts.map tgD))) (W : W27 20 5 Ts) (q : ∀ h, Q.r (.bl true) h) : SatS (tl34_7 (e34 ns i (some (.int ch)) x4 x5 x6 x7 x8 x9 x10 x11 x12 x13 x14 x15) h) Q := by
  unfold tl34_7
  with_reducible refine s_seq ?_
  with_reducible refine s_if' ?_
  with_reducible refine x_andT ?_
  with_reducible refine x_tst ?_
  with_reducible refine x_bin ?_
  with_reducible refine x_var (d := .int ch) ?_ ?_
  · rfl
  with_reducible refine x_c ?_
  refine x_some (d := .bl (decide (ch = 5))) rfl ?_
  with_reducible refine x_oB ?_
  have W0 : W27 70 7 Ts := W.mono (by decide) (by decide)
  refine ⟨fun _ => ?_, fun _ => ⟨fun z => absurd z (by decide), fun _ => s_next (ph8_k s hn hi W0 q)⟩⟩
  with_reducible refine x_tst ?_
  with_reducible refine x_bin ?_
  refine nx27 (t := t) hn rfl rfl (x_c ⟨4, rfl, by decide, by decide, s, fun r1 h1 a1 b1 s1 => ?_⟩)
  refine x_c (x_some (d := .bl (decide (r1 = 0))) rfl (x_oB ⟨fun _ => ?_, fun _ => s_next (ph8_k s1 hn hi (W.mono (by decide) (by decide)) q)⟩))
  with_reducible refine s_seq ?_
  with_reducible refine s_asg' ?_
  with_reducible refine x_bin ?_
  with_reducible refine x_c ?_
  refine nx27 (t := t) hn rfl rfl (x_c ⟨4, rfl, by decide, by decide, s1, fun r2 h2 a2 b2 s2 => ?_⟩)
  obtain ⟨many, em, m1, m2⟩ : ∃ many : Nat, (59 : Int) + r2 = (many : Int) ∧ 59 ≤ many ∧ many ≤ 62 := ⟨(59 + r2).toNat, by omega, by omega, by omega⟩
  refine x_some (d := .int (many : Int)) (by rw [← em]; rfl) ?_
  clear em
  dsimp only
  with_reducible refine s_seq ?_
  with_reducible refine s_asg' ?_
  with_reducible refine x_compC27 (fun pre post h' acc => h' = h2 ∧ pre.length + post.length = many ∧ ∃ Ts : List R5, acc = Ts.map tgD ∧ Ts.length = pre.length ∧ ∀ r ∈ Ts, ok27 r ∧ r.2.2.2.1.length ≤ 2 ∧ r.2.2.2.2.length ≤ 1) ?_
  have lrm : (rngL 0 many).length = many := by simp [rngL]
  with_reducible refine rngV (i := 7) (j := many) ?_ (by omega) ?_
  · rfl
  refine ⟨⟨rfl, by show 0 + (rngL 0 many).length = many; omega, [], rfl, rfl, fun r m => absurd m List.not_mem_nil⟩, fun _ _ _ _ _ _ => trivial, ?_, ?_⟩
  · rintro pre y post h' acc hx ⟨rfl, lp, Us, rfl, lU, cU⟩
    obtain ⟨rfl, hk⟩ := rng28 hx
    have hk : pre.length < many := hk
    refine ⟨_, rfl, x_yes ⟨fun _ => ⟨by rw [List.length_map, sizeLine_eq]; omega, ?_⟩, fun z => nomatch z⟩⟩
    refine joinE (k := pre.length) (ne := []) (by omega) rfl (nilE ⟨rfl, ?_⟩)
    refine ⟨rfl, by have lp : pre.length + (post.length + 1) = many := lp; rw [List.length_append, List.length_singleton]; omega, Us ++ [((tN pre.length, "join", [], [], []) : R5)], by rw [List.map_append]; rfl, by rw [List.length_append, List.length_append, lU]; rfl, fun r m => ?_⟩
    rcases List.mem_append.mp m with m | m
    · exact cU r m
    · rw [List.mem_singleton.mp m]
      exact ⟨okJ (by omega) fun a m => absurd m List.not_mem_nil, Nat.zero_le _, Nat.zero_le _⟩
  rintro h' acc ⟨rfl, -, Us, rfl, lU, cU⟩
  have lU : Us.length = many := by rw [← lrm]; exact lU
  have WU : W27 63 1 Us := ⟨List.ne_nil_of_length_pos (by omega), by omega, cU⟩
  have s3 := s2.app28 (.lst (Us.map tgD))
  have hi3 : (t ++ [Cel.lst (Us.map tgD)])[t.length]? = some (.lst (Us.map tgD)) := by rw [List.getElem?_append_right (Nat.le_refl _), Nat.sub_self]; rfl
  rw [s2.len28]
  generalize t ++ [Cel.lst (Us.map tgD)] = t3 at s3 hi3
  generalize t.length = i3 at hi3 ⊢
  generalize h' ++ [Cel.lst (Us.map tgD)] = h3 at s3 ⊢
  dsimp only
  with_reducible refine s_seq ?_
  with_reducible refine s_asg' ?_
  refine nx27 (t := t3) hn rfl rfl (x_var rfl ⟨many, rfl, by omega, by omega, s3, fun k h4 k0 k1 s4 => ?_⟩)
  obtain ⟨kn, rfl⟩ : ∃ kn : Nat, k = (kn : Int) := ⟨k.toNat, by omega⟩
  have kl : kn < many := by omega
  have nE : ∀ (r4 : Int), 0 ≤ r4 → r4 < 4 → ∃ ne : List Str, atI [D.tup (([] : List Str).map .str), .tup (([] : List Str).map .str), .tup ((["//z:none"] : List Str).map .str), .tup (([tN kn] : List Str).map .str)] r4 = some (.tup (ne.map .str)) ∧ ne.length ≤ 1 ∧ ∀ a ∈ ne, okS a := fun r4 a4 b4 => by
    have : r4 = 0 ∨ r4 = 1 ∨ r4 = 2 ∨ r4 = 3 := by omega
    rcases this with rfl | rfl | rfl | rfl
    · exact ⟨[], rfl, by decide, fun a m => absurd m List.not_mem_nil⟩
    · exact ⟨[], rfl, by decide, fun a m => absurd m List.not_mem_nil⟩
    · exact ⟨["//z:none"], rfl, Nat.le_refl _, fun a m => by rw [List.mem_singleton.mp m]; exact none_ok⟩
    · exact ⟨[tN kn], rfl, Nat.le_refl _, fun a m => by rw [List.mem_singleton.mp m]; exact tN_ok (by omega)⟩
  dsimp only
  with_reducible refine s_seq ?_
  with_reducible refine s_asg' ?_
  with_reducible refine x_bin ?_
  refine x_lst (x_cons (nilE (x_cons (nilE (x_cons (x_tup (x_cons (x_c (x_nil ⟨sl_le (show 1 ≤ 16777216 by decide), ?_⟩)))))))))
  refine x_cons (x_tup (x_cons (x_tN (k := kn) (by omega) (x_var rfl ⟨rfl, ?_⟩))))
  refine x_nil ⟨sl_le (show 1 ≤ 16777216 by decide), x_nil ⟨sl_le (show 4 ≤ 16777216 by decide), ?_⟩⟩
  refine nx27 (t := t3) hn rfl rfl (x_c ⟨4, rfl, by decide, by decide, s4, fun r4 h5 a4 b4 s5 => ?_⟩)
  obtain ⟨ne, en, ln, on⟩ := nE r4 a4 b4
  refine ix28 rfl en ?_
  have k1' : (kn : Int) < Us.length := by omega
  obtain ⟨e1, e2, e3⟩ := sub27 (r' := (tN kn, "join", [], [], ne)) s5 hi3 k0 k1'
  refine s_seq (s_sub' (joinE (k := kn) (ne := ne) (by omega) rfl (x_var rfl ⟨rfl, x_var rfl (x_var rfl ⟨_, e1, ?_⟩)⟩)))
  have W2 : W27 63 1 (Us.set (kn : Int).toNat (tN kn, "join", [], [], ne)) := WU.put _ ⟨okJ (by omega) on, Nat.zero_le _, ln⟩ (Nat.le_refl _)
  have lV : (Us.set (kn : Int).toNat ((tN kn, "join", [], [], ne) : R5)).length = many := by rw [List.length_set]; exact lU
  generalize Us.set (kn : Int).toNat (tN kn, "join", [], [], ne) = Vs at e2 e3 W2 lV
  generalize t3.set i3 (.lst (Vs.map tgD)) = t6 at e2 e3
  generalize h5.set (i3 + 1) (.lst (Vs.map tgD)) = h6 at e2 ⊢
  have fin : ∀ {Q : Ps} (i : Nat) (t h : Hap) (Ts : List R5) (x5 x6 : Option D), St t h → t[i]? = some (.lst (Ts.map tgD)) → W27 70 1 Ts → Ts.length = many → (∀ h, Q.r (.bl true) h) → SatS (mIfS (mTst (mBin dEq (mCall Mi.m_law_next (mCons (mVar 1) (mCons (mVar 0) (mCons (mC (.int 4)) mNil)))) (mC (.int 0)))) (mExp (mMet "list" gAppend (mVar 2) (mCons (mBin dIx (mVar 2) (mCall Mi.m_law_next (mCons (mVar 1) (mCons (mVar 0) (mCons (mVar 7) mNil))))) mNil))) mNext
      (e34 ns i (some (.int ch)) (some (.int (kn : Int))) x5 x6 (some (.int (many : Int))) (some (.tup (ne.map .str))) x9 x10 x11 x12 x13 x14 x15) h) ⟨fun e h1 => SatS (tl34_8 e h1) Q, Q.r, Q.b, Q.c⟩ := fun i t h Ts x5 x6 s hi W lT q => by
    with_reducible refine s_if' ?_
    with_reducible refine tEq ?_
    refine nx27 (t := t) hn rfl rfl (x_c ⟨4, rfl, by decide, by decide, s, fun r1 h1 a1 b1 s1 => ⟨_, rfl, ?_⟩⟩)
    have W0 : W27 70 7 Ts := W.mono (Nat.le_refl _) (by decide)
    refine ⟨fun _ => ?_, fun _ => s_next (ph8_k s1 hn hi W0 q)⟩
    refine s_exp' (x_met (x_var rfl ⟨isl28 ((s1.at28 i).trans hi), x_cons (x_bin (x_var rfl ?_))⟩))
    refine nx27 (t := t) hn rfl rfl (x_var rfl ⟨many, rfl, by omega, by omega, s1, fun k h2 k0 k1 s2 => ?_⟩)
    have kl : k.toNat < Ts.length := by omega
    have ey : atI (Ts.map tgD) k = some (tgD Ts[k.toNat]) := by
      unfold atI ixN
      rw [if_pos k0, if_pos (by rw [List.length_map]; omega)]
      simp [kl]
    refine ix28 (gq28 ((s2.at28 i).trans hi)) ey ?_
    have wl := W.hl
    refine x_nil (v28_app ((s2.at28 i).trans hi) (by rw [List.length_map]; omega) ?_)
    have s3 := s2.set28 i (.lst ((Ts ++ [Ts[k.toNat]]).map tgD))
    have e4 : Ts.map tgD ++ [tgD Ts[k.toNat]] = (Ts ++ [Ts[k.toNat]]).map tgD := by rw [List.map_append]; rfl
    rw [e4]
    have W3 : W27 63 1 (Ts ++ [Ts[k.toNat]]) := ⟨by simp, by rw [List.length_append, List.length_singleton]; omega, fun r m => (List.mem_append.mp m).elim (W.hr r) fun m => by rw [List.mem_singleton.mp m]; exact W.hr _ (List.getElem_mem kl)⟩
    exact ph8_k s3 hn (List.getElem?_set_self (List.getElem?_eq_some_iff.mp hi).1) (W3.mono (by decide) (by decide)) q
  with_reducible refine s_seq ?_
  with_reducible refine s_if' ?_
  with_reducible refine tEq ?_
  refine nx27 (t := t6) hn rfl rfl (x_c ⟨3, rfl, by decide, by decide, e2, fun r5 h7 a5 b5 s7 => ⟨_, rfl, ?_⟩⟩)
  have W3 : W27 70 1 Vs := W2.mono (by decide) (Nat.le_refl _)
  refine ⟨fun _ => ?_, fun _ => s_next (fin i3 t6 h7 Vs _ _ s7 e3 W3 lV q)⟩
  with_reducible refine s_asg' ?_
  with_reducible refine x_call ?_
  with_reducible refine x_cons ?_
  with_reducible refine x_var (d := .int (many : Int)) ?_ ?_
  · rfl
  with_reducible refine x_cons ?_
  refine nx27 (t := t6) hn rfl rfl (x_c ⟨2, rfl, by decide, by decide, s7, fun r6 h8 a6 b6 s8 => ?_⟩)
  with_reducible refine x_nil ?_
  with_reducible refine chain_k (many := many) (by omega) (by omega) a6 b6 ?_
  intro Cs WC lC
  rw [s8.len28]
  refine fin t6.length _ _ Cs _ _ (s8.app28 _) ?_ WC lC q
  rw [List.getElem?_append_right (Nat.le_refl _), Nat.sub_self]
  rfl
end
end Vi

set_option Elab.async false
set_option linter.all false
set_option autoImplicit false
set_option maxRecDepth 100000
set_option maxHeartbeats 2000000
namespace Vi
open PySem PySem.Spec PyProof.Rows L2
open scoped Classical
local macro_rules | `(tactic| walk_at "x1") => `(tactic| with_reducible first
  | refine x_bin ?_ | refine x_tst ?_ | refine x_oB ?_ | refine x_c ?_ | refine s_seqA ?_ | refine s_seqU ?_ | refine s_seqE ?_ | refine s_seqN ?_ | refine s_seqD ?_ | refine s_seqF ?_ | refine s_seqL ?_ | refine s_asg' ?_ | refine s_if' ?_ | refine s_ret' ?_ | refine s_exp' ?_ | refine s_next ?_ | refine s_retN' ?_ | refine s_sub' ?_ | refine s_dsub' ?_ | refine s_setF' ?_ | refine s_ddel' ?_
  | refine x_cb ?_ | refine x_cons ?_ | refine x_nil ?_ | refine x_call ?_ | refine x_met ?_ | refine x_meth ?_ | refine x_make ?_ | refine x_fld ?_ | refine x_un ?_ | refine x_notT ?_ | refine x_andT ?_ | refine x_orT ?_ | refine x_and ?_ | refine x_or ?_ | refine x_not ?_ | refine x_if ?_
  | refine x_tup ?_ | refine x_lst ?_ | refine x_cel ?_ | refine x_dnew ?_ | refine x_sortIt ?_ | refine x_sl ?_ | refine x_noP ?_ | refine x_part ?_ | refine x_oI ?_ | refine x_mI ?_ | refine x_rng ?_ | refine x_yes ?_ | refine x_chn ?_ | refine x_fun ?_ | refine x_ok ?_)
local macro_rules | `(tactic| walk_at "x2") => `(tactic| first
  | ((with_reducible refine y_var ?_); refine ⟨_, rfl, ?_⟩)
  | ((with_reducible refine y_some ?_); refine ⟨_, rfl, ?_⟩)
  | ((with_reducible refine y_gP ?_); refine ⟨_, rfl, ?_⟩))
local macro_rules | `(tactic| walk_at "x") => `(tactic| repeat (first | walk_at "x1" | walk_at "x2" ))
local macro_rules | `(tactic| walk_at "nx") => `(tactic| (refine next_k (by assumption) (by assumption) (by first | decide | omega) (by first | decide | omega) ?_))
section
variable {t h : Hap} {ns : List Int} {P : D → Hap → Prop} {env : Env} {Ts : List R5} {i : Nat} {r : R5}
theorem tOr {ch a b : Int} {P : Bool → Hap → Prop} (e3 : env[3]? = some (some (.int ch))) (p : ∀ x, P x h) : Sat (mOrT (mTst (mBin dEq (mVar 3) (mC (.int a)))) (mTst (mBin dEq (mVar 3) (mC (.int b)))) env h) P := by
  with_reducible refine x_orT ?_
  with_reducible refine tEq ?_
  with_reducible refine x_var e3 ?_
  refine ⟨ch, rfl, fun _ => p true, fun _ => ?_⟩
  with_reducible refine tEq ?_
  with_reducible refine x_var e3 ?_
  exact ⟨ch, rfl, p _⟩
theorem ixn27 {P : D → Hap → Prop} (hn : ns.length ≤ 63) (s : St t h) (hi : t[i]? = some (.lst (Ts.map tgD))) (ne : Ts ≠ []) (hl : Ts.length ≤ 1000) (e2 : env[2]? = some (some (.ref (i + 1)))) (e1 : env[1]? = some (some (.ref 0))) (e0 : env[0]? = some (some (scr ns))) (k : ∀ (r : R5) h2, r ∈ Ts → St t h2 → P (tgD r) h2) : Sat (mBin dIx (mVar 2) (mCall Mi.m_law_next (mCons (mVar 1) (mCons (mVar 0) (mCons (mCB dLen (mCons (mVar 2) mNil)) mNil)))) env h) P := by
  with_reducible refine x_bin ?_
  with_reducible refine x_var e2 ?_
  refine nl27 hn s hi ne hl e2 e1 e0 fun q h2 q0 q1 s2 => ?_
  have kl : q.toNat < Ts.length := by omega
  have ey : atI (Ts.map tgD) q = some (tgD Ts[q.toNat]) := by
    unfold atI ixN
    rw [if_pos q0, if_pos (by rw [List.length_map]; exact q1)]
    simp [kl]
  exact ix28 (gq28 ((s2.at28 i).trans hi)) ey (k _ _ (List.getElem_mem kl) s2)
theorem addE {z : String} {P : D → Hap → Prop} (e5 : env[5]? = some (some (tgD r))) (p : P (tgD (r.1, Str.ofString z, [], [], [])) h) :
    Sat (mTup (mCons (mBin dIx (mVar 5) (mC (.int 0))) (mCons (mC (.str (Str.ofString z))) (mCons (mTup mNil) (mCons (mTup mNil) (mCons (mTup mNil) mNil))))) env h) P := by
  refine x_tup (x_cons (x_bin (x_var e5 (x_c (x_some (d := .str r.1) rfl ?_)))))
  refine x_cons (x_c (x_cons (nilE ?_)))
  refine x_cons (nilE (x_cons (nilE ?_)))
  exact x_nil ⟨sl_le (show 5 ≤ 16777216 by decide), p⟩
theorem okA {z : Str} (o : ok27 r) (oz : okS z) : ok27 (r.1, z, [], [], []) := ⟨⟨o.1.1, Nat.zero_le _⟩, o.2.1, oz, fun a m => absurd m List.not_mem_nil, fun a m => absurd m List.not_mem_nil, fun a m => absurd m List.not_mem_nil⟩
noncomputable def tl34_6 : MS := (mSeq (mIfS (mOrT (mTst (mBin dEq (mVar 3) (mC (.int 3)))) (mTst (mBin dEq (mVar 3) (mC (.int 4))))) (mSeq (mAsg (mBin dIx (mVar 2) (mCall Mi.m_law_next (mCons (mVar 1) (mCons (mVar 0) (mCons (mCB dLen (mCons (mVar 2) mNil)) mNil))))) (gNm 5))
    (mSeq (mExp (mMet "list" gAppend (mVar 2) (mCons (mTup (mCons (mBin dIx (mVar 5) (mC (.int 0))) (mCons (mC (.str "join")) (mCons (mTup mNil) (mCons (mTup mNil) (mCons (mTup mNil) mNil)))))) mNil)))
    (mIfS (mTst (mBin dEq (mCall Mi.m_law_next (mCons (mVar 1) (mCons (mVar 0) (mCons (mC (.int 3)) mNil)))) (mC (.int 0)))) (mSeq (mAsg (mBin dIx (mVar 2) (mCall Mi.m_law_next (mCons (mVar 1) (mCons (mVar 0) (mCons (mCB dLen (mCons (mVar 2) mNil)) mNil))))) (gNm 5))
    (mExp (mMet "list" gAppend (mVar 2) (mCons (mTup (mCons (mBin dIx (mVar 5) (mC (.int 0))) (mCons (mC (.str "sort")) (mCons (mTup mNil) (mCons (mTup mNil) (mCons (mTup mNil) mNil)))))) mNil)))) mNext))) mNext)
    tl34_7)
noncomputable def tl34_5 : MS := (mSeq (mIfS (mOrT (mTst (mBin dEq (mVar 3) (mC (.int 2)))) (mTst (mBin dEq (mVar 3) (mC (.int 3))))) (mSeq (mAsg (mBin dIx (mVar 2) (mVar 4)) (gNm 5))
    (mSub (mTup (mCons (mBin dIx (mVar 5) (mC (.int 0))) (mCons (mBin dIx (mVar 5) (mC (.int 1))) (mCons (mBin dIx (mVar 5) (mC (.int 2))) (mCons (mBin dIx (mVar 5) (mC (.int 3))) (mCons (mBin dAdd (mTup (mCons (mBin dAdd (mC (.str "//no:")) (mBin dIx (mBin dIx (mVar 5) (mC (.int 0))) (mUn dNeg (mC (.int 1))))) mNil)) (mBin dIx (mVar 5) (mC (.int 4)))) mNil)))))) (mVar 2) (mVar 4))) mNext)
    tl34_6)
noncomputable def tl34_4 : MS := (mSeq (mIfS (mTst (mBin dLt (mVar 3) (mC (.int 2)))) (mSeq (mAsg (mBin dIx (mVar 2) (mVar 4)) (gNm 5))
    (mSeq (mAsg (mBin dIx (mBin dIx (mVar 2) (mCall Mi.m_law_next (mCons (mVar 1) (mCons (mVar 0) (mCons (mCB dLen (mCons (mVar 2) mNil)) mNil))))) (mC (.int 0))) (gNm 6))
    (mSub (mTup (mCons (mBin dIx (mVar 5) (mC (.int 0))) (mCons (mBin dIx (mVar 5) (mC (.int 1))) (mCons (mBin dIx (mVar 5) (mC (.int 2))) (mCons (mBin dIx (mVar 5) (mC (.int 3))) (mCons (mBin dAdd (mBin dIx (mVar 5) (mC (.int 4))) (mTup (mCons (mVar 6) mNil))) mNil)))))) (mVar 2) (mVar 4)))) mNext)
    tl34_5)
theorem ph6_k {ch : Int} {x4 x5 x6 x7 x8 x9 x10 x11 x12 x13 x14 x15 : Option D} {Q : Ps} (s : St t h) (hn : ns.length ≤ 63) (hi : t[i]? = some (.lst (Ts.map tgD))) (W : W27 13 5 Ts) (q : ∀ h, Q.r (.bl true) h) : SatS (tl34_6 (e34 ns i (some (.int ch)) x4 x5 x6 x7 x8 x9 x10 x11 x12 x13 x14 x15) h) Q := by
  unfold tl34_6
  have wl := W.hl
  have il := (List.getElem?_eq_some_iff.mp hi).1
  with_reducible refine s_seq ?_
  with_reducible refine s_if' ?_
  refine tOr rfl fun x => ⟨fun _ => ?_, fun _ => s_next (ph7_k s hn hi (W.mono (by decide) (Nat.le_refl _)) q)⟩
  with_reducible refine s_seq ?_
  with_reducible refine s_asg' ?_
  refine ixn27 hn s hi W.ne (by omega) rfl rfl rfl fun r h1 mr s1 => ?_
  have o := (W.hr r mr).1
  dsimp only
  with_reducible refine s_seq ?_
  with_reducible refine s_exp' ?_
  with_reducible refine x_met ?_
  with_reducible refine x_var (d := .ref (i + 1)) ?_ ?_
  · rfl
  refine ⟨isl28 ((s1.at28 i).trans hi), ?_⟩
  with_reducible refine x_cons ?_
  refine addE (r := r) rfl ?_
  with_reducible refine x_nil ?_
  with_reducible refine v28_app ((s1.at28 i).trans hi) (by rw [List.length_map]; omega) ?_
  have e1 : Ts.map tgD ++ [tgD (r.1, "join", [], [], [])] = (Ts ++ [((r.1, "join", [], [], []) : R5)]).map tgD := by rw [List.map_append]; rfl
  rw [e1]
  have s2 := s1.set28 i (.lst ((Ts ++ [((r.1, "join", [], [], []) : R5)]).map tgD))
  have hi2 : (t.set i (.lst ((Ts ++ [((r.1, "join", [], [], []) : R5)]).map tgD)))[i]? = some (.lst ((Ts ++ [((r.1, "join", [], [], []) : R5)]).map tgD)) := List.getElem?_set_self il
  have W2 : W27 14 5 (Ts ++ [((r.1, "join", [], [], []) : R5)]) := W.add ⟨okA o join_ok.1, Nat.zero_le _, Nat.zero_le _⟩
  generalize Ts ++ [((r.1, "join", [], [], []) : R5)] = Us at s2 hi2 W2 ⊢
  generalize t.set i (.lst (Us.map tgD)) = t2 at s2 hi2
  generalize h1.set (i + 1) (.lst (Us.map tgD)) = h2 at s2 ⊢
  have wl2 := W2.hl
  have il2 := (List.getElem?_eq_some_iff.mp hi2).1
  dsimp only
  with_reducible refine s_if' ?_
  with_reducible refine tEq ?_
  refine nx27 (t := t2) hn rfl rfl (x_c ⟨3, rfl, by decide, by decide, s2, fun r1 h3 a1 b1 s3 => ⟨_, rfl, ?_⟩⟩)
  have W3 : W27 20 5 Us := W2.mono (by decide) (Nat.le_refl _)
  refine ⟨fun _ => ?_, fun _ => s_next (ph7_k s3 hn hi2 W3 q)⟩
  with_reducible refine s_seq ?_
  with_reducible refine s_asg' ?_
  refine ixn27 hn s3 hi2 W2.ne (by omega) rfl rfl rfl fun r2 h4 mr2 s4 => ?_
  have o2 := (W2.hr r2 mr2).1
  dsimp only
  with_reducible refine s_exp' ?_
  with_reducible refine x_met ?_
  with_reducible refine x_var (d := .ref (i + 1)) ?_ ?_
  · rfl
  refine ⟨isl28 ((s4.at28 i).trans hi2), ?_⟩
  with_reducible refine x_cons ?_
  refine addE (r := r2) rfl ?_
  with_reducible refine x_nil ?_
  with_reducible refine v28_app ((s4.at28 i).trans hi2) (by rw [List.length_map]; omega) ?_
  have e2 : Us.map tgD ++ [tgD (r2.1, "sort", [], [], [])] = (Us ++ [((r2.1, "sort", [], [], []) : R5)]).map tgD := by rw [List.map_append]; rfl
  rw [e2]
  have W4 : W27 20 5 (Us ++ [((r2.1, "sort", [], [], []) : R5)]) := (W2.add ⟨okA o2 join_ok.2, Nat.zero_le _, Nat.zero_le _⟩).mono (by decide) (Nat.le_refl _)
  exact ph7_k (s4.set28 i _) hn (List.getElem?_set_self il2) W4 q
theorem ph5_k {ch k : Int} {x5 x6 x7 x8 x9 x10 x11 x12 x13 x14 x15 : Option D} {Q : Ps} (s : St t h) (hn : ns.length ≤ 63) (hi : t[i]? = some (.lst (Ts.map tgD))) (W : W27 13 4 Ts) (k0 : 0 ≤ k) (k1 : k < Ts.length) (q : ∀ h, Q.r (.bl true) h) : SatS (tl34_5 (e34 ns i (some (.int ch)) (some (.int k)) x5 x6 x7 x8 x9 x10 x11 x12 x13 x14 x15) h) Q := by
  unfold tl34_5
  have W0 : W27 13 5 Ts := W.mono (Nat.le_refl _) (by decide)
  with_reducible refine s_seq ?_
  with_reducible refine s_if' ?_
  refine tOr rfl fun x => ⟨fun _ => ?_, fun _ => s_next (ph6_k s hn hi W0 q)⟩
  with_reducible refine s_seq ?_
  with_reducible refine s_asg' ?_
  refine row27 s hi k0 k1 rfl rfl fun r mr => ?_
  have o := W.hr r mr
  obtain ⟨z, oz, kz⟩ := noE o.1
  dsimp only
  with_reducible refine s_sub' ?_
  refine rowE (r := r) (ne := [z] ++ r.2.2.2.2) rfl (x_bin (x_tup (x_cons (kz _ _ _ rfl (x_nil ⟨sl_le (show 1 ≤ 16777216 by decide), needE (r := r) rfl ?_⟩)))))
  refine addT (xs := [z]) (ys := r.2.2.2.2) (by simp; omega) ⟨rfl, ?_⟩
  obtain ⟨e1, e2, e3⟩ := sub27 (r' := (r.1, r.2.1, r.2.2.1, r.2.2.2.1, [z] ++ r.2.2.2.2)) s hi k0 k1
  refine x_var rfl (x_var rfl ⟨_, e1, ?_⟩)
  refine ph6_k e2 hn e3 (W.put _ ⟨⟨o.1.1, o.1.2.1, o.1.2.2.1, o.1.2.2.2.1, o.1.2.2.2.2.1, fun a m => ?_⟩, o.2.1, ?_⟩ (by decide)) q
  · rcases List.mem_append.mp m with m | m
    · rw [List.mem_singleton.mp m]; exact oz
    · exact o.1.2.2.2.2.2 a m
  · have := o.2.2
    simp only [List.length_append, List.length_singleton]
    omega
theorem ph4_k {ch k : Int} {x5 x6 x7 x8 x9 x10 x11 x12 x13 x14 x15 : Option D} {Q : Ps} (s : St t h) (hn : ns.length ≤ 63) (hi : t[i]? = some (.lst (Ts.map tgD))) (W : W27 13 3 Ts) (k0 : 0 ≤ k) (k1 : k < Ts.length) (q : ∀ h, Q.r (.bl true) h) : SatS (tl34_4 (e34 ns i (some (.int ch)) (some (.int k)) x5 x6 x7 x8 x9 x10 x11 x12 x13 x14 x15) h) Q := by
  unfold tl34_4
  have wl := W.hl
  have W0 : W27 13 4 Ts := W.mono (Nat.le_refl _) (by decide)
  with_reducible refine s_seq ?_
  with_reducible refine s_if' ?_
  with_reducible refine x_tst ?_
  with_reducible refine x_bin ?_
  with_reducible refine x_var (d := .int ch) ?_ ?_
  · rfl
  with_reducible refine x_c ?_
  with_reducible refine x_some (d := .bl (decide (ch < 2))) ?_ ?_
  · rfl
  with_reducible refine x_oB ?_
  refine ⟨fun _ => ?_, fun _ => s_next (ph5_k s hn hi W0 k0 k1 q)⟩
  with_reducible refine s_seq ?_
  with_reducible refine s_asg' ?_
  refine row27 s hi k0 k1 rfl rfl fun r mr => ?_
  have o := W.hr r mr
  dsimp only
  with_reducible refine s_seq ?_
  with_reducible refine s_asg' ?_
  with_reducible refine x_bin ?_
  refine ixn27 hn s hi W.ne (by omega) rfl rfl rfl fun r2 h2 mr2 s2 => ?_
  refine x_c (x_some (d := .str r2.1) rfl ?_)
  dsimp only
  with_reducible refine s_sub' ?_
  refine rowE (r := r) (ne := r.2.2.2.2 ++ [r2.1]) rfl (x_bin (needE (r := r) rfl (x_tup (x_cons (x_var (d := .str r2.1) rfl (x_nil ⟨sl_le (show 1 ≤ 16777216 by decide), ?_⟩))))))
  refine addT (xs := r.2.2.2.2) (ys := [r2.1]) (by simp; omega) ⟨rfl, ?_⟩
  obtain ⟨e1, e2, e3⟩ := sub27 (r' := (r.1, r.2.1, r.2.2.1, r.2.2.2.1, r.2.2.2.2 ++ [r2.1])) s2 hi k0 k1
  refine x_var rfl (x_var rfl ⟨_, e1, ?_⟩)
  refine ph5_k e2 hn e3 (W.put _ ⟨⟨o.1.1, o.1.2.1, o.1.2.2.1, o.1.2.2.2.1, o.1.2.2.2.2.1, fun a m => ?_⟩, o.2.1, ?_⟩ (by decide)) k0 (by rw [List.length_set]; exact k1) q
  · rcases List.mem_append.mp m with m | m
    · exact o.1.2.2.2.2.2 a m
    · rw [List.mem_singleton.mp m]; exact (W.hr r2 mr2).1.2.1
  · have := o.2.2
    simp only [List.length_append, List.length_singleton]
    omega
end
end Vi

set_option Elab.async false
set_option linter.all false
set_option autoImplicit false
set_option maxRecDepth 100000
set_option maxHeartbeats 2000000
namespace Vi
open PySem PySem.Spec PyProof.Rows L2
open scoped Classical
local macro_rules | `(tactic| walk_at "x1") => `(tactic| with_reducible first
  | refine x_bin ?_ | refine x_tst ?_ | refine x_oB ?_ | refine x_c ?_ | refine s_seqA ?_ | refine s_seqU ?_ | refine s_seqE ?_ | refine s_seqN ?_ | refine s_seqD ?_ | refine s_seqF ?_ | refine s_seqL ?_ | refine s_asg' ?_ | refine s_if' ?_ | refine s_ret' ?_ | refine s_exp' ?_ | refine s_next ?_ | refine s_retN' ?_ | refine s_sub' ?_ | refine s_dsub' ?_ | refine s_setF' ?_ | refine s_ddel' ?_
  | refine x_cb ?_ | refine x_cons ?_ | refine x_nil ?_ | refine x_call ?_ | refine x_met ?_ | refine x_meth ?_ | refine x_make ?_ | refine x_fld ?_ | refine x_un ?_ | refine x_notT ?_ | refine x_andT ?_ | refine x_orT ?_ | refine x_and ?_ | refine x_or ?_ | refine x_not ?_ | refine x_if ?_
  | refine x_tup ?_ | refine x_lst ?_ | refine x_cel ?_ | refine x_dnew ?_ | refine x_sortIt ?_ | refine x_sl ?_ | refine x_noP ?_ | refine x_part ?_ | refine x_oI ?_ | refine x_mI ?_ | refine x_rng ?_ | refine x_yes ?_ | refine x_chn ?_ | refine x_fun ?_ | refine x_ok ?_)
local macro_rules | `(tactic| walk_at "x2") => `(tactic| first
  | ((with_reducible refine y_var ?_); refine ⟨_, rfl, ?_⟩)
  | ((with_reducible refine y_some ?_); refine ⟨_, rfl, ?_⟩)
  | ((with_reducible refine y_gP ?_); refine ⟨_, rfl, ?_⟩))
local macro_rules | `(tactic| walk_at "x") => `(tactic| repeat (first | walk_at "x1" | walk_at "x2" ))
local macro_rules | `(tactic| walk_at "nx") => `(tactic| (refine next_k (by assumption) (by assumption) (by first | decide | omega) (by first | decide | omega) ?_))
section
variable {h : Hap} {P : D → Hap → Prop} {env : Env} {ns : List Int}
noncomputable def hd34 : MS := (mSeq (mAsg (mCel (mCons (mC (.int 0)) (mCons (mC (.int 0)) (mCons (mC (.int 1)) mNil)))) (gNm 1))
 (mSeq (mAsg (mCall Mi.m_law_targets (mCons (mVar 1) (mCons (mVar 0) (mCons (mBin dAdd (mC (.int 1)) (mCall Mi.m_law_next (mCons (mVar 1) (mCons (mVar 0) (mCons (mC (.int 12)) mNil))))) mNil)))) (gNm 2))
 (mSeq (mAsg (mCall Mi.m_law_next (mCons (mVar 1) (mCons (mVar 0) (mCons (mC (.int 7)) mNil)))) (gNm 3))
 (mSeq (mAsg (mCall Mi.m_law_next (mCons (mVar 1) (mCons (mVar 0) (mCons (mCB dLen (mCons (mVar 2) mNil)) mNil)))) (gNm 4))
 tl34_4))))
theorem hd34_k {Q : Ps} (hn : ns.length ≤ 63) (q : ∀ h, Q.r (.bl true) h) : SatS (hd34 (env0 16 [scr ns]) []) Q := by
  unfold hd34
  have s0 : St [] [stc 0 0 1] := ⟨0, 0, 1, rfl, by decide, by decide, by decide⟩
  refine s_seq (s_asg' (x_cel (x_cons (x_c (x_cons (x_c (x_cons (x_c (x_nil ⟨sl_le (show 3 ≤ 16777216 by decide), ?_⟩)))))))))
  dsimp only
  have s1 : St [] ([] ++ [Cel.lst [.int 0, .int 0, .int 1]]) := s0
  generalize ([] : Hap) ++ [Cel.lst [.int 0, .int 0, .int 1]] = h1 at s1 ⊢
  clear s0
  with_reducible refine s_seq ?_
  with_reducible refine s_asg' ?_
  with_reducible refine x_call ?_
  with_reducible refine x_cons ?_
  with_reducible refine x_var (d := .ref 0) ?_ ?_
  · rfl
  with_reducible refine x_cons ?_
  with_reducible refine x_var (d := scr ns) ?_ ?_
  · rfl
  with_reducible refine x_cons ?_
  with_reducible refine x_bin ?_
  with_reducible refine x_c ?_
  refine nx27 (t := []) hn rfl rfl (x_c ⟨12, rfl, by decide, by decide, s1, fun r h2 r0 r1 s2 => ?_⟩)
  with_reducible refine x_some (d := .int (1 + r)) ?_ ?_
  · rfl
  with_reducible refine x_nil ?_
  with_reducible refine law_targets_k s2 hn (by omega) (by omega) ?_
  rintro Ls Ts j g h3 ⟨nL, neL⟩ eT ⟨lL, lM⟩ T s3 hj
  have neL := neL (by omega)
  have neT : Ts ≠ [] := fun z => neL (List.length_eq_zero_iff.mp (by rw [← eT, z]; rfl))
  have WR : ∀ r ∈ Ts, ok27 r ∧ r.2.2.2.1.length ≤ 2 ∧ r.2.2.2.2.length ≤ 3 := by
    intro r m
    have o := T.ok r m
    have b := T.hr r m
    have oo : ok27 r := ⟨⟨o.1, b.1⟩, o.2⟩
    exact And.intro oo b.2
  have W : W27 13 3 Ts := ⟨neT, by omega, WR⟩
  obtain ⟨i, rfl⟩ : ∃ i, j = i + 1 := by
    cases j with
    | succ i => exact ⟨i, rfl⟩
    | zero =>
      obtain ⟨a, b, c, rfl, _⟩ := s3
      cases Ts with
      | nil => exact absurd rfl neT
      | cons r Ts => simp [stc, tgD] at hj
  have hi : ([] ++ g : Hap)[i]? = some (.lst (Ts.map tgD)) := (s3.at28 i).symm.trans hj
  generalize ([] ++ g : Hap) = t at s3 hi
  have wl := W.hl
  dsimp only
  with_reducible refine s_seq ?_
  with_reducible refine s_asg' ?_
  refine nx27 (t := t) hn rfl rfl (x_c ⟨7, rfl, by decide, by decide, s3, fun ch h4 c0 c1 s4 => ?_⟩)
  dsimp only
  with_reducible refine s_seq ?_
  with_reducible refine s_asg' ?_
  refine nl27 hn s4 hi W.ne (by omega) rfl rfl rfl fun k h5 k0 k1 s5 => ?_
  exact ph4_k (x5 := none) (x6 := none) (x7 := none) (x8 := none) (x9 := none) (x10 := none) (x11 := none) (x12 := none) (x13 := none) (x14 := none) (x15 := none) s5 hn hi W k0 k1 q
theorem k27_main (ns : List Int) (hn : ns.length ≤ 63) : ∃ h, Mi.m_law_35 [scr ns] [] = .ok (.bl true) h := by
  suffices h : Sat (Mi.m_law_35 [scr ns] []) fun d _ => d = .bl true by
    obtain ⟨a, h, e, q⟩ := h.ex
    exact ⟨h, by rw [e, q]⟩
  unfold Mi.m_law_35
  rw [show Mi.b_law_35 = hd34 from rfl]
  with_reducible refine x_fun ?_
  exact hd34_k hn fun _ => rfl
end
end Vi

set_option Elab.async false
set_option linter.all false
set_option autoImplicit false
set_option maxRecDepth 100000
set_option maxHeartbeats 4000000
namespace L27
open PySem PySem.Spec PyProof.Rows L2 Vi
noncomputable section
def top (i : Nat) : Stmt := PySem.Challenge.pw_truemill_k27_make_graph.main.body.getD i (.Pass ⟨0, 0, 0, 0⟩)
abbrev s_action_from : Stmt := top 7
abbrev N_action_from : List Str := ["target", "label", "tool", "args", "sources", "needs", "inputs", "path", "need"]
theorem sc_action_from : FnScope N_action_from ["target"] (defScope s_action_from) := ⟨rfl, rfl, rfl, by decide +kernel, rfl, by decide +kernel, by decide +kernel⟩
abbrev s_turned_round : Stmt := top 10
abbrev N_turned_round : List Str := ["links", "turned", "label", "other"]
theorem sc_turned_round : FnScope N_turned_round ["links"] (defScope s_turned_round) := ⟨rfl, rfl, rfl, by decide +kernel, rfl, by decide +kernel, by decide +kernel⟩
abbrev s_reached : Stmt := top 11
abbrev N_reached : List Str := ["links", "labels", "found", "left", "label"]
theorem sc_reached : FnScope N_reached ["links", "labels"] (defScope s_reached) := ⟨rfl, rfl, rfl, by decide +kernel, rfl, by decide +kernel, by decide +kernel⟩
abbrev s_law_next : Stmt := top 13
abbrev N_law_next : List Str := ["state", "script", "many", "answer", "cell"]
theorem sc_law_next : FnScope N_law_next ["state", "script", "many"] (defScope s_law_next) := ⟨rfl, rfl, rfl, by decide +kernel, rfl, by decide +kernel, by decide +kernel⟩
abbrev s_law_char : Stmt := top 15
abbrev N_law_char : List Str := ["number", "chars"]
theorem sc_law_char : FnScope N_law_char ["number"] (defScope s_law_char) := ⟨rfl, rfl, rfl, by decide +kernel, rfl, by decide +kernel, by decide +kernel⟩
abbrev s_law_graph : Stmt := top 22
abbrev N_law_graph : List Str := ["targets", "rows", "target", "inputs", "path", "need"]
theorem sc_law_graph : FnScope N_law_graph ["targets"] (defScope s_law_graph) := ⟨rfl, rfl, rfl, by decide +kernel, rfl, by decide +kernel, by decide +kernel⟩
abbrev s_law_needs : Stmt := top 23
abbrev N_law_needs : List Str := ["graph", "label", "action", "part"]
theorem sc_law_needs : FnScope N_law_needs ["graph", "label"] (defScope s_law_needs) := ⟨rfl, rfl, rfl, by decide +kernel, rfl, by decide +kernel, by decide +kernel⟩
abbrev s_law_chain : Stmt := top 26
abbrev N_law_chain : List Str := ["many", "last", "targets", "n", "needs"]
theorem sc_law_chain : FnScope N_law_chain ["many", "last"] (defScope s_law_chain) := ⟨rfl, rfl, rfl, by decide +kernel, rfl, by decide +kernel, by decide +kernel⟩
abbrev s_ordered : Stmt := top 9
abbrev N_ordered : List Str := ["needs", "waiting", "missing", "possible", "order", "label", "user"]
theorem sc_ordered : FnScope N_ordered ["needs"] (defScope s_ordered) := ⟨rfl, rfl, rfl, by decide +kernel, rfl, by decide +kernel, by decide +kernel⟩
abbrev s_law_words : Stmt := top 16
abbrev N_law_words : List Str := ["state", "script", "text", "k", "choice"]
theorem sc_law_words : FnScope N_law_words ["state", "script"] (defScope s_law_words) := ⟨rfl, rfl, rfl, by decide +kernel, rfl, by decide +kernel, by decide +kernel⟩
abbrev s_law_tool : Stmt := top 17
abbrev N_law_tool : List Str := ["state", "script", "tools"]
theorem sc_law_tool : FnScope N_law_tool ["state", "script"] (defScope s_law_tool) := ⟨rfl, rfl, rfl, by decide +kernel, rfl, by decide +kernel, by decide +kernel⟩
abbrev s_law_labels : Stmt := top 19
abbrev N_law_labels : List Str := ["state", "script", "many", "labels", "k", "folder", "name", "label"]
theorem sc_law_labels : FnScope N_law_labels ["state", "script", "many"] (defScope s_law_labels) := ⟨rfl, rfl, rfl, by decide +kernel, rfl, by decide +kernel, by decide +kernel⟩
abbrev s_law_shuffled : Stmt := top 21
abbrev N_law_shuffled : List Str := ["state", "script", "rows", "left", "result", "k"]
theorem sc_law_shuffled : FnScope N_law_shuffled ["state", "script", "rows"] (defScope s_law_shuffled) := ⟨rfl, rfl, rfl, by decide +kernel, rfl, by decide +kernel, by decide +kernel⟩
abbrev s_law_reach : Stmt := top 24
abbrev N_law_reach : List Str := ["graph", "labels", "known", "found", "label", "k", "need", "action"]
theorem sc_law_reach : FnScope N_law_reach ["graph", "labels"] (defScope s_law_reach) := ⟨rfl, rfl, rfl, by decide +kernel, rfl, by decide +kernel, by decide +kernel⟩
abbrev s_least_in_cycle : Stmt := top 8
abbrev N_least_in_cycle : List Str := ["needs", "placed", "label"]
theorem sc_least_in_cycle : FnScope N_least_in_cycle ["needs"] (defScope s_least_in_cycle) := ⟨rfl, rfl, rfl, by decide +kernel, rfl, by decide +kernel, by decide +kernel⟩
abbrev s_law_args : Stmt := top 18
abbrev N_law_args : List Str := ["state", "script", "tool", "many", "args", "k", "arg", "letter"]
theorem sc_law_args : FnScope N_law_args ["state", "script", "tool"] (defScope s_law_args) := ⟨rfl, rfl, rfl, by decide +kernel, rfl, by decide +kernel, by decide +kernel⟩
abbrev s_law_due : Stmt := top 25
abbrev N_law_due : List Str := ["targets", "labels", "doubled", "unknown", "target", "graph", "circle", "label", "need"]
theorem sc_law_due : FnScope N_law_due ["targets"] (defScope s_law_due) := ⟨rfl, rfl, rfl, by decide +kernel, rfl, by decide +kernel, by decide +kernel⟩
abbrev s_make_graph : Stmt := top 6
abbrev N_make_graph : List Str := ["targets", "labels", "before", "label", "needs", "looped", "target", "need"]
theorem sc_make_graph : FnScope N_make_graph ["targets"] (defScope s_make_graph) := ⟨rfl, rfl, rfl, by decide +kernel, rfl, by decide +kernel, by decide +kernel⟩
abbrev s_law_targets : Stmt := top 20
abbrev N_law_targets : List Str := ["state", "script", "many", "labels", "targets", "k", "tool", "args", "sources", "needs", "j"]
theorem sc_law_targets : FnScope N_law_targets ["state", "script", "many"] (defScope s_law_targets) := ⟨rfl, rfl, rfl, by decide +kernel, rfl, by decide +kernel, by decide +kernel⟩
abbrev s_law_same : Stmt := top 14
abbrev N_law_same : List Str := ["actual", "due", "k"]
theorem sc_law_same : FnScope N_law_same ["actual", "due"] (defScope s_law_same) := ⟨rfl, rfl, rfl, by decide +kernel, rfl, by decide +kernel, by decide +kernel⟩
abbrev s_law : Stmt := top 27
abbrev N_law : List Str := ["script", "state", "targets", "choice", "k", "row", "other", "many", "needs", "j", "given", "kept", "due", "actual", "problem", "n"]
theorem sc_law : FnScope N_law ["script"] (defScope s_law) := ⟨rfl, rfl, rfl, by decide +kernel, rfl, by decide +kernel, by decide +kernel⟩
abbrev si_GraphProblem : Stmt := inner (top 3)
theorem sci_GraphProblem : FnScope ["self", "label", "reason"] ["self", "label", "reason"] (defScope si_GraphProblem) := ⟨rfl, rfl, rfl, by decide +kernel, rfl, by decide +kernel, by decide +kernel⟩
section
variable [Tbl]
structure Txt (wd : World) (K : PySem.W.Frag) (mg : Str → Option Value) (base : Heap) : Prop where
  h_action_from : Has K mg "action_from" s_action_from ["target"]
  h_turned_round : Has K mg "turned_round" s_turned_round ["links"]
  h_reached : Has K mg "reached" s_reached ["links", "labels"]
  h_law_next : Has K mg "_law_next" s_law_next ["state", "script", "many"]
  h_law_char : Has K mg "_law_char" s_law_char ["number"]
  h_law_graph : HasL K mg base "_law_graph" s_law_graph ["targets"]
  h_law_needs : Has K mg "_law_needs" s_law_needs ["graph", "label"]
  h_law_chain : Has K mg "_law_chain" s_law_chain ["many", "last"]
  h_ordered : Has K mg "ordered" s_ordered ["needs"]
  h_law_words : Has K mg "_law_words" s_law_words ["state", "script"]
  h_law_tool : Has K mg "_law_tool" s_law_tool ["state", "script"]
  h_law_labels : Has K mg "_law_labels" s_law_labels ["state", "script", "many"]
  h_law_shuffled : Has K mg "_law_shuffled" s_law_shuffled ["state", "script", "rows"]
  h_law_reach : Has K mg "_law_reach" s_law_reach ["graph", "labels"]
  h_least_in_cycle : Has K mg "least_in_cycle" s_least_in_cycle ["needs"]
  h_law_args : Has K mg "_law_args" s_law_args ["state", "script", "tool"]
  h_law_due : Has K mg "_law_due" s_law_due ["targets"]
  h_make_graph : HasL K mg base "make_graph" s_make_graph ["targets"]
  h_law_targets : Has K mg "_law_targets" s_law_targets ["state", "script", "many"]
  h_law_same : Has K mg "_law_same" s_law_same ["actual", "due"]
  b_abs : mg "abs" = none
  b_any : mg "any" = none
  b_bool : mg "bool" = none
  b_int : mg "int" = none
  b_isinstance : mg "isinstance" = none
  b_len : mg "len" = none
  b_list : mg "list" = none
  b_min : mg "min" = none
  b_range : mg "range" = none
  b_sorted : mg "sorted" = none
  b_str : mg "str" = none
  b_tuple : mg "tuple" = none
  b_zip : mg "zip" = none
  m_heappop : mg "heappop" = some (.builtin "_heapq.heappop")
  m_heappush : mg "heappush" = some (.builtin "_heapq.heappush")
  g_MOST_ACTIONS : ∃ t, mg "MOST_ACTIONS" = some (.int 60 t)
  q_GraphProblem : ∃ C, mg "GraphProblem" = some (.ref C) ∧ ExQ K C
  k_GraphProblem : Cat K mg "GraphProblem" ["GraphProblem"] []
  i_GraphProblem_MillError : ∀ {C}, mg "GraphProblem" = some (.ref C) → ∃ D, mg "MillError" = some (.ref D) ∧ PySem.W.kitOne K (.ref C) (.ref D) = some true
  x_GraphProblem : ∀ {C}, mg "GraphProblem" = some (.ref C) → XfC K C
  f_GraphProblem_label : ∀ {C}, mg "GraphProblem" = some (.ref C) → PySem.W.findIn K (.ref C) "label" = some none
  f_GraphProblem_reason : ∀ {C}, mg "GraphProblem" = some (.ref C) → PySem.W.findIn K (.ref C) "reason" = some none
  n_GraphProblem : ∃ C fI fd, mg "GraphProblem" = some (.ref C) ∧ OexC K C ∧ PySem.W.findIn K (.ref C) "__init__" = some (some (.ref fI)) ∧ PySem.W.typeIn K (.ref fI) = some (.type "function") ∧ Fun K "__init__" "GraphProblem.__init__" si_GraphProblem fI fd ∧ Binds K fd ["self", "label", "reason"] [] ∧ ∀ f ∈ [("label" : Str), ("reason" : Str)], PySem.W.findIn K (.ref C) f = some none
section
variable {P : Program} {wd : World} {K : PySem.W.Frag} {mg : Str → Option Value} {base : Heap}
theorem ok_ini_GraphProblem (T : Txt wd K mg base) : OkI P wd K mg base "GraphProblem" 1 ["label", "reason"] := by
  obtain ⟨C, fI, fd, h1, h2, h3, h4, F, h5, h6⟩ := T.n_GraphProblem
  refine ⟨C, fI, fd, _, h1, h2, h3, h4, h5, fnOk_of (k := 0) F sci_GraphProblem (fun vs H Q E z => z.1) fun cdv A outer s H vs Q E hr z => ?_⟩
  obtain ⟨_, a, ws, rfl, hw, e, q⟩ := z
  obtain ⟨w0, w1, rfl⟩ : ∃ w0 w1, ws = [w0, w1] := by
    match ws, hw with
    | [w0, w1], _ => exact ⟨_, _, rfl⟩
  refine ⟨_, (pss_cons (ps_ost (pe_var (i := 0) rfl (.inl rfl)) (pe_var (i := 1) rfl (.inl rfl))) (pss_one (ps_ost (pe_var (i := 0) rfl (.inl rfl)) (pe_var (i := 2) rfl (.inl rfl))))), ?_⟩
  exact ini_2 h2 h6 e q fun _ _ z => z
theorem okh_law_same (T : Txt wd K mg base) : ∀ n : Nat, OkH P wd K mg base "_law_same" (1 + n) 2 (Mi.mm_law_same n)
  | 0 => OkH.zero (k := 1) T.h_law_same rfl
  | n + 1 => OkH.mk' (k := 1 + n) (b := Mi.b_law_same (Mi.mm_law_same n)) T.h_law_same sc_law_same rfl rfl rfl fun f cdv A outer s H E pz hc hr =>
  (ss_cons (s_if (c_cmp op_isN s_is (e_var (i := 1) rfl (.inl rfl)) e_non (nomark _)) (ss_one (s_ret (e_cmp op_isN s_is (e_var (i := 0) rfl (.inl rfl)) e_non (nomark _)))) ss_nil)
    (ss_cons (s_if (c_val (e_cb call_isi s_isi rfl T.b_isinstance bl_isinstance (a_cons (e_var (i := 1) rfl (.inl rfl)) (a_cons (e_ty T.b_tuple bl_tuple rfl) a_nil)))) (ss_cons (s_if (c_w (w_or (c_not (c_val (e_cb call_isi s_isi rfl T.b_isinstance bl_isinstance (a_cons (e_var (i := 0) rfl (.inl rfl)) (a_cons (e_ty T.b_tuple bl_tuple rfl) a_nil))))) (w_or1 (c_cmp (o_ne (hunits hr)) s_ne (e_cb call_len s_len rfl T.b_len bl_len (a_cons (e_var (i := 0) rfl (.inl rfl)) a_nil)) (e_cb call_len s_len rfl T.b_len bl_len (a_cons (e_var (i := 1) rfl (.inl rfl)) a_nil)) (nomark _))))) (ss_one (s_ret e_bl)) ss_nil)
    (ss_cons (s_forh (passes_of rfl) hc T.b_range rfl (a_cons (e_cb call_len s_len rfl T.b_len bl_len (a_cons (e_var (i := 1) rfl (.inl rfl)) a_nil)) a_nil) (pg_name (i := 2) sc_law_same.nd rfl (.inl rfl)) (g_nm 2) (ss_one (s_if (c_not (c_val (e_fh (okh_law_same T n) hr (by first | decide | omega) hc (L2N.takes_of rfl rfl rfl rfl) (a_cons (e_ix (e_var (i := 0) rfl (.inl rfl)) (e_var (i := 2) rfl (.inl rfl)) (fun _ _ => rfl)) (a_cons (e_ix (e_var (i := 1) rfl (.inl rfl)) (e_var (i := 2) rfl (.inl rfl)) (fun _ _ => rfl)) a_nil)) (mCons_len (mCons_len mNil_len)) rfl))) (ss_one (s_ret e_bl)) ss_nil)))
    (ss_one (s_ret e_bl)))) ss_nil)
    (ss_cons (s_if (c_val (e_cb call_isi s_isi rfl T.b_isinstance bl_isinstance (a_cons (e_var (i := 1) rfl (.inl rfl)) (a_cons (e_ty T.b_bool bl_bool rfl) a_nil)))) (ss_one (s_ret (e_and (e_cb call_isi s_isi rfl T.b_isinstance bl_isinstance (a_cons (e_var (i := 0) rfl (.inl rfl)) (a_cons (e_ty T.b_bool bl_bool rfl) a_nil))) (e_one (e_cmp (o_eq (hunits hr)) s_eq (e_var (i := 0) rfl (.inl rfl)) (e_var (i := 1) rfl (.inl rfl)) (nomark _)))))) ss_nil)
    (ss_cons (s_if (c_val (e_cb call_isi s_isi rfl T.b_isinstance bl_isinstance (a_cons (e_var (i := 1) rfl (.inl rfl)) (a_cons (e_ty T.b_int bl_int rfl) a_nil)))) (ss_one (s_ret (e_and (e_cb call_isi s_isi rfl T.b_isinstance bl_isinstance (a_cons (e_var (i := 0) rfl (.inl rfl)) (a_cons (e_ty T.b_int bl_int rfl) a_nil))) (e_and (e_not (e_cb call_isi s_isi rfl T.b_isinstance bl_isinstance (a_cons (e_var (i := 0) rfl (.inl rfl)) (a_cons (e_ty T.b_bool bl_bool rfl) a_nil)))) (e_one (e_cmp (o_eq (hunits hr)) s_eq (e_var (i := 0) rfl (.inl rfl)) (e_var (i := 1) rfl (.inl rfl)) (nomark _))))))) ss_nil)
    (ss_one (s_ret (e_and (e_cb call_isi s_isi rfl T.b_isinstance bl_isinstance (a_cons (e_var (i := 0) rfl (.inl rfl)) (a_cons (e_ty T.b_str bl_str rfl) a_nil))) (e_one (e_cmp (o_eq (hunits hr)) s_eq (e_var (i := 0) rfl (.inl rfl)) (e_var (i := 1) rfl (.inl rfl)) (nomark _))))))))))
theorem okhm_law_same (T : Txt wd K mg base) : OkH P wd K mg base "_law_same" 13 2 Mi.m_law_same := okh_law_same T 12
theorem ok_action_from (T : Txt wd K mg base) : OkF P wd K mg base "action_from" 1 1 Mi.m_action_from := OkF.mk' (k := 0) (b := Mi.b_action_from) T.h_action_from sc_action_from rfl rfl rfl fun f cdv A outer s H E hr =>
  (ss_cons (s_asg (pg_tup rfl (pgs_cons (pg_name (i := 1) sc_action_from.nd rfl (.inl rfl)) (pgs_cons (pg_name (i := 2) sc_action_from.nd rfl (.inl rfl)) (pgs_cons (pg_name (i := 3) sc_action_from.nd rfl (.inl rfl)) (pgs_cons (pg_name (i := 4) sc_action_from.nd rfl (.inl rfl)) (pgs_cons (pg_name (i := 5) sc_action_from.nd rfl (.inl rfl)) pgs_nil)))))) (g_tp (gs_cons (g_nm 1) (gs_cons (g_nm 2) (gs_cons (g_nm 3) (gs_cons (g_nm 4) (gs_cons (g_nm 5) gs_nil)))))) (e_var (i := 0) rfl (.inl rfl)))
    (ss_cons (s_set (i := 6) sc_action_from.nd rfl (.inl rfl) (e_bin o_add s_add (e_comp (own := [("path", 7)]) rfl sc_action_from.nd (blkOk_by (own := [("path", 7)]) (N := N_action_from) (sc := defScope s_action_from) (by decide +kernel)) (by decide) (g_nm 7) (i_any (e_var (i := 4) rfl (.inl rfl))) (fun _ _ _ _ _ => (pg_name (i := 7) sc_action_from.nd rfl (by exact .inl rfl))) (fun _ _ _ _ _ => ts_nil) (fun _ _ _ _ _ => (e_tup (a_cons e_str (a_cons (e_var (i := 7) rfl (by exact .inl rfl)) a_nil))))) (e_comp (own := [("need", 8)]) rfl sc_action_from.nd (blkOk_by (own := [("need", 8)]) (N := N_action_from) (sc := defScope s_action_from) (by decide +kernel)) (by decide) (g_nm 8) (i_any (e_var (i := 5) rfl (.inl rfl))) (fun _ _ _ _ _ => (pg_name (i := 8) sc_action_from.nd rfl (by exact .inl rfl))) (fun _ _ _ _ _ => ts_nil) (fun _ _ _ _ _ => (e_tup (a_cons e_str (a_cons (e_var (i := 8) rfl (by exact .inl rfl)) a_nil)))))))
    (ss_one (s_ret (e_tup (a_cons (e_var (i := 1) rfl (.inl rfl)) (a_cons (e_var (i := 2) rfl (.inl rfl)) (a_cons (e_var (i := 3) rfl (.inl rfl)) (a_cons (e_cty call_tuple_of s_tupleOf rfl T.b_tuple bl_tuple (a_cons (e_var (i := 6) rfl (.inl rfl)) a_nil)) a_nil)))))))))
theorem ok_turned_round (T : Txt wd K mg base) : OkF P wd K mg base "turned_round" 1 1 Mi.m_turned_round := OkF.mk' (k := 0) (b := Mi.b_turned_round) T.h_turned_round sc_turned_round rfl rfl rfl fun f cdv A outer s H E hr =>
  (ss_cons (s_lokG (g := (gVr 0)) (s_setDc (i := 1) (own := [("label", 2)]) rfl sc_turned_round.nd rfl rfl (swd_true rfl rfl rfl (by decide +kernel)) (blkOk_by (own := [("label", 2)]) (N := N_turned_round) (sc := defScope s_turned_round) (by decide +kernel)) (by decide) (g_nm 2) (i_keys (i := 0) rfl (.inl rfl)) (fun _ _ _ _ _ => (pg_name (i := 2) sc_turned_round.nd rfl (by exact .inl rfl))) (fun _ _ _ _ _ => ts_nil) (fun _ _ _ _ _ => (e_var (i := 2) rfl (by exact .inl rfl))) (fun _ _ _ _ _ => (e_cel a_nil))))
    (ss_cons (s_lokG (g := (gVr 0)) (s_for (passes_of rfl) rfl (pg_name (i := 2) sc_turned_round.nd rfl (.inl rfl)) (g_nm 2) (i_keysE (e_var (i := 0) rfl (.inl rfl))) (ss_one (s_for (passes_of rfl) rfl (pg_name (i := 3) sc_turned_round.nd rfl (.inl rfl)) (g_nm 3) (i_any (e_dgetL hr.units (e_var (i := 0) rfl (.inl rfl)) (e_var (i := 2) rfl (.inl rfl)) (fun _ _ => rfl))) (ss_one (s_exp (e_met PySem.F.plainAttrs_list PySem.F.slot_list_append PySem.F.type_list_append mt_append s_append (e_dsetd (e_var (i := 1) rfl (.inl rfl)) (e_var (i := 3) rfl (.inl rfl)) (e_cel a_nil) ⟨rfl, rfl, rfl, rfl⟩) (a_cons (e_var (i := 2) rfl (.inl rfl)) a_nil))))))))
    (ss_one (s_ret (e_var (i := 1) rfl (.inl rfl))))))
theorem ok_reached (T : Txt wd K mg base) : OkF P wd K mg base "reached" 1 2 Mi.m_reached := OkF.mk' (k := 0) (b := Mi.b_reached) T.h_reached sc_reached rfl rfl rfl fun f cdv A outer s H E hr =>
  (ss_cons (s_set (i := 2) sc_reached.nd rfl (.inl rfl) e_dnew)
    (ss_cons (s_set (i := 3) sc_reached.nd rfl (.inl rfl) (e_celL rfl T.b_list (a_cons (e_var (i := 1) rfl (.inl rfl)) a_nil)))
    (ss_cons (s_wh 100000 (passes_of rfl) (c_truL (e_var (i := 3) rfl (.inl rfl))) (ss_cons (s_set (i := 4) sc_reached.nd rfl (.inl rfl) (e_met0 PySem.F.plainAttrs_list PySem.F.slot_list_pop PySem.F.type_list_pop mt_pop s_pop0 (e_var (i := 3) rfl (.inl rfl))))
    (ss_one (s_if (c_cmp (op_dnotin hr.units) s_dnotin (e_var (i := 4) rfl (.inl rfl)) (e_var (i := 2) rfl (.inl rfl)) rfl) (ss_cons (s_dsub hr.units e_bl (e_var (i := 2) rfl (.inl rfl)) (e_var (i := 4) rfl (.inl rfl)))
    (ss_one (s_exp (e_met PySem.F.plainAttrs_list PySem.F.slot_list_extend PySem.F.type_list_extend mt_extA s_extA (e_var (i := 3) rfl (.inl rfl)) (a_cons (e_dget2 hr.units (e_var (i := 0) rfl (.inl rfl)) (e_var (i := 4) rfl (.inl rfl)) (e_tup a_nil) ⟨rfl, rfl, rfl, rfl⟩) a_nil))))) ss_nil))))
    (ss_one (s_ret (e_var (i := 2) rfl (.inl rfl)))))))
theorem ok_law_next (T : Txt wd K mg base) : OkF P wd K mg base "_law_next" 1 3 Mi.m_law_next := OkF.mk' (k := 0) (b := Mi.b_law_next) T.h_law_next sc_law_next rfl rfl rfl fun f cdv A outer s H E hr =>
  (ss_cons (s_if (c_cmp o_gt s_cmp (e_ix (e_var (i := 0) rfl (.inl rfl)) e_int (fun _ _ => rfl)) e_int (nomark _)) (ss_cons (s_set (i := 3) sc_law_next.nd rfl (.inl rfl) (e_bin op_modN s_mod (e_cty call_int1 s_int rfl T.b_int bl_int (a_cons (e_ix (e_var (i := 0) rfl (.inl rfl)) e_int (fun _ _ => rfl)) a_nil)) (e_var (i := 2) rfl (.inl rfl))))
    (ss_cons (s_sub1 (e_bin op_fdivN s_div (e_cty call_int1 s_int rfl T.b_int bl_int (a_cons (e_ix (e_var (i := 0) rfl (.inl rfl)) e_int (fun _ _ => rfl)) a_nil)) (e_var (i := 2) rfl (.inl rfl))) (e_var (i := 0) rfl (.inl rfl)) e_int)
    (ss_one (s_ret (e_var (i := 3) rfl (.inl rfl)))))) ss_nil)
    (ss_cons (s_set (i := 4) sc_law_next.nd rfl (.inl rfl) e_int)
    (ss_cons (s_if (c_cmp o_lt s_cmp (e_ix (e_var (i := 0) rfl (.inl rfl)) e_int (fun _ _ => rfl)) (e_cb call_len s_len rfl T.b_len bl_len (a_cons (e_var (i := 1) rfl (.inl rfl)) a_nil)) (nomark _)) (ss_one (s_set (i := 4) sc_law_next.nd rfl (.inl rfl) (e_cb call_abs s_abs rfl T.b_abs bl_abs (a_cons (e_cty call_int1 s_int rfl T.b_int bl_int (a_cons (e_ix (e_var (i := 1) rfl (.inl rfl)) (e_ix (e_var (i := 0) rfl (.inl rfl)) e_int (fun _ _ => rfl)) (fun _ _ => rfl)) a_nil)) a_nil)))) ss_nil)
    (ss_cons (s_sub1 (e_bin o_add s_add (e_ix (e_var (i := 0) rfl (.inl rfl)) e_int (fun _ _ => rfl)) e_int) (e_var (i := 0) rfl (.inl rfl)) e_int)
    (ss_cons (s_if (c_cmp o_ge s_cmp (e_var (i := 4) rfl (.inl rfl)) (e_bin op_pow s_pow e_int e_int) (nomark _)) (ss_cons (s_sub1 (e_bin op_fdivN s_div (e_var (i := 4) rfl (.inl rfl)) (e_var (i := 2) rfl (.inl rfl))) (e_var (i := 0) rfl (.inl rfl)) e_int)
    (ss_one (s_ret (e_bin op_modN s_mod (e_cty call_int1 s_int rfl T.b_int bl_int (a_cons (e_var (i := 4) rfl (.inl rfl)) a_nil)) (e_var (i := 2) rfl (.inl rfl)))))) ss_nil)
    (ss_cons (s_sub1 (e_bin op_modN s_mod (e_cty call_int1 s_int rfl T.b_int bl_int (a_cons (e_bin o_add s_add (e_bin o_add s_add (e_bin o_mul s_mul (e_ix (e_var (i := 0) rfl (.inl rfl)) e_int (fun _ _ => rfl)) e_int) (e_bin o_mul s_mul (e_var (i := 4) rfl (.inl rfl)) e_int)) e_int) a_nil)) e_int) (e_var (i := 0) rfl (.inl rfl)) e_int)
    (ss_one (s_ret (e_bin op_modN s_mod (e_cty call_int1 s_int rfl T.b_int bl_int (a_cons (e_bin o_add s_add (e_bin op_fdivN s_div (e_ix (e_var (i := 0) rfl (.inl rfl)) e_int (fun _ _ => rfl)) e_int) (e_bin op_fdivN s_div (e_bin o_mul s_mul (e_ix (e_var (i := 0) rfl (.inl rfl)) e_int (fun _ _ => rfl)) (e_ix (e_var (i := 0) rfl (.inl rfl)) e_int (fun _ _ => rfl))) e_int)) a_nil)) (e_var (i := 2) rfl (.inl rfl)))))))))))
theorem ok_law_char (T : Txt wd K mg base) : OkF P wd K mg base "_law_char" 1 1 Mi.m_law_char := OkF.mk' (k := 0) (b := Mi.b_law_char) T.h_law_char sc_law_char rfl rfl rfl fun f cdv A outer s H E hr =>
  (ss_cons (s_set (i := 1) sc_law_char.nd rfl (.inl rfl) e_str)
    (ss_cons (s_set (i := 1) sc_law_char.nd rfl (.inl rfl) (e_bin o_add s_add (e_var (i := 1) rfl (.inl rfl)) e_str))
    (ss_one (s_ret (e_ix (e_var (i := 1) rfl (.inl rfl)) (e_var (i := 0) rfl (.inl rfl)) (fun _ _ => rfl))))))
theorem ok_law_graph (T : Txt wd K mg base) : OkF P wd K mg base "_law_graph" 1 1 Mi.m_law_graph := OkF.mkL (k := 0) (b := Mi.b_law_graph) T.h_law_graph sc_law_graph rfl rfl rfl fun f c PT A outer s H E TB0 hmem hu hr =>
  (ss_cons (s_set (i := 1) sc_law_graph.nd rfl (.inl rfl) (e_cel a_nil))
    (ss_cons (s_for (passes_of rfl) rfl (pg_name (i := 2) sc_law_graph.nd rfl (.inl rfl)) (g_nm 2) (i_any (e_var (i := 0) rfl (.inl rfl))) (ss_cons (s_set (i := 3) sc_law_graph.nd rfl (.inl rfl) (e_bin o_add s_add (e_comp (own := [("path", 4)]) rfl sc_law_graph.nd (blkOk_by (own := [("path", 4)]) (N := N_law_graph) (sc := defScope s_law_graph) (by decide +kernel)) (by decide) (g_nm 4) (i_any (e_ix (e_var (i := 2) rfl (.inl rfl)) e_int (fun _ _ => rfl))) (fun _ _ _ _ _ => (pg_name (i := 4) sc_law_graph.nd rfl (by exact .inl rfl))) (fun _ _ _ _ _ => ts_nil) (fun _ _ _ _ _ => (e_tup (a_cons e_str (a_cons (e_var (i := 4) rfl (by exact .inl rfl)) a_nil))))) (e_comp (own := [("need", 5)]) rfl sc_law_graph.nd (blkOk_by (own := [("need", 5)]) (N := N_law_graph) (sc := defScope s_law_graph) (by decide +kernel)) (by decide) (g_nm 5) (i_any (e_ix (e_var (i := 2) rfl (.inl rfl)) e_int (fun _ _ => rfl))) (fun _ _ _ _ _ => (pg_name (i := 5) sc_law_graph.nd rfl (by exact .inl rfl))) (fun _ _ _ _ _ => ts_nil) (fun _ _ _ _ _ => (e_tup (a_cons e_str (a_cons (e_var (i := 5) rfl (by exact .inl rfl)) a_nil)))))))
    (ss_one (s_exp (e_met PySem.F.plainAttrs_list PySem.F.slot_list_append PySem.F.type_list_append mt_append s_append (e_var (i := 1) rfl (.inl rfl)) (a_cons (e_tup (a_cons (e_ix (e_var (i := 2) rfl (.inl rfl)) e_int (fun _ _ => rfl)) (a_cons (e_ix (e_var (i := 2) rfl (.inl rfl)) e_int (fun _ _ => rfl)) (a_cons (e_ix (e_var (i := 2) rfl (.inl rfl)) e_int (fun _ _ => rfl)) (a_cons (e_cty call_tuple_of s_tupleOf rfl T.b_tuple bl_tuple (a_cons (e_var (i := 3) rfl (.inl rfl)) a_nil)) a_nil))))) a_nil))))))
    (ss_one (s_ret (e_cty call_tuple_of s_tupleOf rfl T.b_tuple bl_tuple (a_cons (e_sortK0 (x := "row") TB0 rfl rfl hmem hu ⟨⟨_, _, _, _, rfl⟩, rfl, rfl, rfl, by decide, by decide, rfl, by decide, fun _ _ _ _ _ _ => rfl⟩ hr T.b_sorted rfl (a_cons (e_var (i := 1) rfl (.inl rfl)) a_nil)) a_nil))))))
theorem ok_law_needs (T : Txt wd K mg base) : OkF P wd K mg base "_law_needs" 1 2 Mi.m_law_needs := OkF.mk' (k := 0) (b := Mi.b_law_needs) T.h_law_needs sc_law_needs rfl rfl rfl fun f cdv A outer s H E hr =>
  (ss_cons (s_for (passes_of rfl) rfl (pg_name (i := 2) sc_law_needs.nd rfl (.inl rfl)) (g_nm 2) (i_any (e_var (i := 0) rfl (.inl rfl))) (ss_one (s_if (c_cmp (o_eq hr.units) s_eq (e_ix (e_var (i := 2) rfl (.inl rfl)) e_int (fun _ _ => rfl)) (e_var (i := 1) rfl (.inl rfl)) (nomark _)) (ss_one (s_ret (e_comp (own := [("part", 3)]) rfl sc_law_needs.nd (blkOk_by (own := [("part", 3)]) (N := N_law_needs) (sc := defScope s_law_needs) (by decide +kernel)) (by decide) (g_nm 3) (i_any (e_ix (e_var (i := 2) rfl (.inl rfl)) e_int (fun _ _ => rfl))) (fun _ _ _ _ _ => (pg_name (i := 3) sc_law_needs.nd rfl (by exact .inl rfl))) (fun _ _ _ _ _ => (ts_one (c_cmp (o_eq hr.units) s_eq (e_ix (e_var (i := 3) rfl (by exact .inl rfl)) e_int (fun _ _ => rfl)) e_str (nomark _)))) (fun _ _ _ _ _ => (e_ix (e_var (i := 3) rfl (by exact .inl rfl)) e_int (fun _ _ => rfl)))))) ss_nil)))
    (ss_one (s_ret (e_lst a_nil))))
theorem ok_law_chain (T : Txt wd K mg base) : OkF P wd K mg base "_law_chain" 1 2 Mi.m_law_chain := OkF.mk' (k := 0) (b := Mi.b_law_chain) T.h_law_chain sc_law_chain rfl rfl rfl fun f cdv A outer s H E hr =>
  (ss_cons (s_set (i := 2) sc_law_chain.nd rfl (.inl rfl) (e_cel a_nil))
    (ss_cons (s_for (passes_of rfl) rfl (pg_name (i := 3) sc_law_chain.nd rfl (.inl rfl)) (g_nm 3) (i_rng1 T.b_range rfl (a_cons (e_var (i := 0) rfl (.inl rfl)) a_nil)) (ss_cons (s_set (i := 4) sc_law_chain.nd rfl (.inl rfl) (e_tup (a_cons (e_bin o_add s_add e_str (e_cty call_str_int s_str rfl T.b_str bl_str (a_cons (e_bin o_add s_add (e_var (i := 3) rfl (.inl rfl)) e_int) a_nil))) a_nil)))
    (ss_cons (s_if (c_cmp (o_eq hr.units) s_eq (e_var (i := 3) rfl (.inl rfl)) (e_bin op_sub s_sub (e_var (i := 0) rfl (.inl rfl)) e_int) (nomark _)) (ss_one (s_set (i := 4) sc_law_chain.nd rfl (.inl rfl) (e_ix (e_lst (a_cons (e_tup (a_cons e_str a_nil)) (a_cons (e_tup a_nil) a_nil))) (e_var (i := 1) rfl (.inl rfl)) (fun _ _ => rfl)))) ss_nil)
    (ss_one (s_exp (e_met PySem.F.plainAttrs_list PySem.F.slot_list_append PySem.F.type_list_append mt_append s_append (e_var (i := 2) rfl (.inl rfl)) (a_cons (e_tup (a_cons (e_bin o_add s_add e_str (e_cty call_str_int s_str rfl T.b_str bl_str (a_cons (e_var (i := 3) rfl (.inl rfl)) a_nil))) (a_cons e_str (a_cons (e_tup a_nil) (a_cons (e_tup a_nil) (a_cons (e_var (i := 4) rfl (.inl rfl)) a_nil)))))) a_nil)))))))
    (ss_one (s_ret (e_var (i := 2) rfl (.inl rfl))))))
theorem ok_ordered (T : Txt wd K mg base) : OkF P wd K mg base "ordered" 2 1 Mi.m_ordered := OkF.mk' (k := 1) (b := Mi.b_ordered) T.h_ordered sc_ordered rfl rfl rfl fun f cdv A outer s H E hr =>
  (ss_cons (s_set (i := 1) sc_ordered.nd rfl (.inl rfl) (e_f (ok_turned_round T) hr (by decide) (L2N.takes_of rfl rfl rfl rfl) (a_cons (e_var (i := 0) rfl (.inr (.inl rfl))) a_nil) (mCons_len mNil_len) rfl))
    (ss_cons (s_set (i := 2) sc_ordered.nd rfl (.inr rfl) (e_lokG (g := (gVr 0)) (e_dcomp (own := [("label", 5)]) rfl sc_ordered.nd (blkOk_by (own := [("label", 5)]) (N := N_ordered) (sc := defScope s_ordered) (by decide +kernel)) (by decide) (g_nm 5) (i_keys (i := 0) rfl (.inr (.inl rfl))) (fun _ _ _ _ _ => (pg_name (i := 5) sc_ordered.nd rfl (by exact .inl rfl))) (fun _ _ _ _ _ => ts_nil) (fun _ _ _ _ _ => (e_var (i := 5) rfl (by exact .inl rfl))) (fun _ _ _ _ _ => (e_cb call_len s_len rfl T.b_len bl_len (a_cons (e_dgetL hr.units (e_var (i := 0) rfl (by exact .inr (.inl rfl))) (e_var (i := 5) rfl (by exact .inl rfl)) (fun _ _ => rfl)) a_nil))))))
    (ss_cons (s_set (i := 3) sc_ordered.nd rfl (.inl rfl) (e_celSo hr.units rfl T.b_sorted (a_cons (e_lok (i := 0) (e_comp (own := [("label", 5)]) rfl sc_ordered.nd (blkOk_by (own := [("label", 5)]) (N := N_ordered) (sc := defScope s_ordered) (by decide +kernel)) (by decide) (g_nm 5) (i_keys (i := 0) rfl (.inr (.inl rfl))) (fun _ _ _ _ _ => (pg_name (i := 5) sc_ordered.nd rfl (by exact .inl rfl))) (fun _ _ _ _ _ => (ts_one (c_cmp (o_eq hr.units) s_eq (e_dget hr.units (e_var (i := 2) rfl (by exact .inr (.inl rfl))) (e_var (i := 5) rfl (by exact .inl rfl)) (fun _ _ => rfl)) e_int (nomark _)))) (fun _ _ _ _ _ => (e_var (i := 5) rfl (by exact .inl rfl))))) a_nil)))
    (ss_cons (s_set (i := 4) sc_ordered.nd rfl (.inl rfl) (e_cel a_nil))
    (ss_cons (s_wh 100000 (passes_of rfl) (c_truL (e_var (i := 3) rfl (.inl rfl))) (ss_cons (s_set (i := 5) sc_ordered.nd rfl (.inl rfl) (e_hpop rfl T.m_heappop (a_cons (e_var (i := 3) rfl (.inl rfl)) a_nil)))
    (ss_cons (s_exp (e_met PySem.F.plainAttrs_list PySem.F.slot_list_append PySem.F.type_list_append mt_append s_append (e_var (i := 4) rfl (.inl rfl)) (a_cons (e_var (i := 5) rfl (.inl rfl)) a_nil)))
    (ss_one (s_for (passes_of rfl) rfl (pg_name (i := 6) sc_ordered.nd rfl (.inl rfl)) (g_nm 6) (i_any (e_dget hr.units (e_var (i := 1) rfl (.inl rfl)) (e_var (i := 5) rfl (.inl rfl)) (fun _ _ => rfl))) (ss_cons (s_daugS hr.units (e_var (i := 2) rfl (.inr (.inl rfl))) (e_var (i := 6) rfl (.inl rfl)) e_int)
    (ss_one (s_if (c_cmp (o_eq hr.units) s_eq (e_dget hr.units (e_var (i := 2) rfl (.inr (.inl rfl))) (e_var (i := 6) rfl (.inl rfl)) (fun _ _ => rfl)) e_int (nomark _)) (ss_one (s_exp (e_hpush rfl T.m_heappush (a_cons (e_var (i := 3) rfl (.inl rfl)) (a_cons (e_var (i := 6) rfl (.inl rfl)) a_nil))))) ss_nil))))))))
    (ss_one (s_ret (e_var (i := 4) rfl (.inl rfl)))))))))
theorem ok_law_words (T : Txt wd K mg base) : OkF P wd K mg base "_law_words" 2 2 Mi.m_law_words := OkF.mk' (k := 1) (b := Mi.b_law_words) T.h_law_words sc_law_words rfl rfl rfl fun f cdv A outer s H E hr =>
  (ss_cons (s_set (i := 2) sc_law_words.nd rfl (.inl rfl) e_str)
    (ss_cons (s_for (passes_of rfl) rfl (pg_name (i := 3) sc_law_words.nd rfl (.inl rfl)) (g_nm 3) (i_rng1 T.b_range rfl (a_cons (e_f (ok_law_next T) hr (by decide) (L2N.takes_of rfl rfl rfl rfl) (a_cons (e_var (i := 0) rfl (.inl rfl)) (a_cons (e_var (i := 1) rfl (.inl rfl)) (a_cons e_int a_nil))) (mCons_len (mCons_len (mCons_len mNil_len))) rfl) a_nil)) (ss_cons (s_set (i := 4) sc_law_words.nd rfl (.inl rfl) (e_f (ok_law_next T) hr (by decide) (L2N.takes_of rfl rfl rfl rfl) (a_cons (e_var (i := 0) rfl (.inl rfl)) (a_cons (e_var (i := 1) rfl (.inl rfl)) (a_cons e_int a_nil))) (mCons_len (mCons_len (mCons_len mNil_len))) rfl))
    (ss_one (s_if (c_cmp o_lt s_cmp (e_var (i := 4) rfl (.inl rfl)) e_int (nomark _)) (ss_one (s_set (i := 2) sc_law_words.nd rfl (.inl rfl) (e_bin o_add s_add (e_var (i := 2) rfl (.inl rfl)) (e_ix (e_lst (a_cons e_str (a_cons e_str (a_cons e_str (a_cons e_str (a_cons e_str (a_cons e_str a_nil))))))) (e_var (i := 4) rfl (.inl rfl)) (fun _ _ => rfl))))) (ss_one (s_set (i := 2) sc_law_words.nd rfl (.inl rfl) (e_bin o_add s_add (e_var (i := 2) rfl (.inl rfl)) (e_f (ok_law_char T) hr (by decide) (L2N.takes_of rfl rfl rfl rfl) (a_cons (e_f (ok_law_next T) hr (by decide) (L2N.takes_of rfl rfl rfl rfl) (a_cons (e_var (i := 0) rfl (.inl rfl)) (a_cons (e_var (i := 1) rfl (.inl rfl)) (a_cons e_int a_nil))) (mCons_len (mCons_len (mCons_len mNil_len))) rfl) a_nil) (mCons_len mNil_len) rfl))))))))
    (ss_one (s_ret (e_var (i := 2) rfl (.inl rfl))))))
theorem ok_law_tool (T : Txt wd K mg base) : OkF P wd K mg base "_law_tool" 2 2 Mi.m_law_tool := OkF.mk' (k := 1) (b := Mi.b_law_tool) T.h_law_tool sc_law_tool rfl rfl rfl fun f cdv A outer s H E hr =>
  (ss_cons (s_set (i := 2) sc_law_tool.nd rfl (.inl rfl) (e_lst (a_cons e_str (a_cons e_str (a_cons e_str (a_cons e_str (a_cons e_str (a_cons e_str (a_cons e_str (a_cons e_str (a_cons e_str (a_cons e_str a_nil))))))))))))
    (ss_one (s_ret (e_ix (e_var (i := 2) rfl (.inl rfl)) (e_f (ok_law_next T) hr (by decide) (L2N.takes_of rfl rfl rfl rfl) (a_cons (e_var (i := 0) rfl (.inl rfl)) (a_cons (e_var (i := 1) rfl (.inl rfl)) (a_cons e_int a_nil))) (mCons_len (mCons_len (mCons_len mNil_len))) rfl) (fun _ _ => rfl)))))
theorem ok_law_labels (T : Txt wd K mg base) : OkF P wd K mg base "_law_labels" 2 3 Mi.m_law_labels := OkF.mk' (k := 1) (b := Mi.b_law_labels) T.h_law_labels sc_law_labels rfl rfl rfl fun f cdv A outer s H E hr =>
  (ss_cons (s_set (i := 3) sc_law_labels.nd rfl (.inl rfl) (e_cel a_nil))
    (ss_cons (s_for (passes_of rfl) rfl (pg_name (i := 4) sc_law_labels.nd rfl (.inl rfl)) (g_nm 4) (i_rng1 T.b_range rfl (a_cons (e_var (i := 2) rfl (.inl rfl)) a_nil)) (ss_cons (s_set (i := 5) sc_law_labels.nd rfl (.inl rfl) (e_ix (e_lst (a_cons e_str (a_cons e_str (a_cons e_str (a_cons e_str (a_cons e_str a_nil)))))) (e_f (ok_law_next T) hr (by decide) (L2N.takes_of rfl rfl rfl rfl) (a_cons (e_var (i := 0) rfl (.inl rfl)) (a_cons (e_var (i := 1) rfl (.inl rfl)) (a_cons e_int a_nil))) (mCons_len (mCons_len (mCons_len mNil_len))) rfl) (fun _ _ => rfl)))
    (ss_cons (s_set (i := 6) sc_law_labels.nd rfl (.inl rfl) (e_ix e_str (e_f (ok_law_next T) hr (by decide) (L2N.takes_of rfl rfl rfl rfl) (a_cons (e_var (i := 0) rfl (.inl rfl)) (a_cons (e_var (i := 1) rfl (.inl rfl)) (a_cons e_int a_nil))) (mCons_len (mCons_len (mCons_len mNil_len))) rfl) (fun _ _ => rfl)))
    (ss_cons (s_set (i := 7) sc_law_labels.nd rfl (.inl rfl) (e_bin o_add s_add (e_bin o_add s_add (e_bin o_add s_add e_str (e_var (i := 5) rfl (.inl rfl))) e_str) (e_var (i := 6) rfl (.inl rfl))))
    (ss_one (s_if (c_cmp o_notIn s_notIn (e_var (i := 7) rfl (.inl rfl)) (e_var (i := 3) rfl (.inl rfl)) rfl) (ss_one (s_exp (e_met PySem.F.plainAttrs_list PySem.F.slot_list_append PySem.F.type_list_append mt_append s_append (e_var (i := 3) rfl (.inl rfl)) (a_cons (e_var (i := 7) rfl (.inl rfl)) a_nil)))) ss_nil))))))
    (ss_one (s_ret (e_var (i := 3) rfl (.inl rfl))))))
theorem ok_law_shuffled (T : Txt wd K mg base) : OkF P wd K mg base "_law_shuffled" 2 3 Mi.m_law_shuffled := OkF.mk' (k := 1) (b := Mi.b_law_shuffled) T.h_law_shuffled sc_law_shuffled rfl rfl rfl fun f cdv A outer s H E hr =>
  (ss_cons (s_set (i := 3) sc_law_shuffled.nd rfl (.inl rfl) (e_celL rfl T.b_list (a_cons (e_var (i := 2) rfl (.inl rfl)) a_nil)))
    (ss_cons (s_set (i := 4) sc_law_shuffled.nd rfl (.inl rfl) (e_cel a_nil))
    (ss_cons (s_for (passes_of rfl) rfl (pg_name (i := 5) sc_law_shuffled.nd rfl (.inl rfl)) (g_nm 5) (i_rng1 T.b_range rfl (a_cons (e_cb call_len s_len rfl T.b_len bl_len (a_cons (e_var (i := 2) rfl (.inl rfl)) a_nil)) a_nil)) (ss_one (s_exp (e_met PySem.F.plainAttrs_list PySem.F.slot_list_append PySem.F.type_list_append mt_append s_append (e_var (i := 4) rfl (.inl rfl)) (a_cons (e_met PySem.F.plainAttrs_list PySem.F.slot_list_pop PySem.F.type_list_pop mt_popAt s_popAt (e_var (i := 3) rfl (.inl rfl)) (a_cons (e_f (ok_law_next T) hr (by decide) (L2N.takes_of rfl rfl rfl rfl) (a_cons (e_var (i := 0) rfl (.inl rfl)) (a_cons (e_var (i := 1) rfl (.inl rfl)) (a_cons (e_cb call_len s_len rfl T.b_len bl_len (a_cons (e_var (i := 3) rfl (.inl rfl)) a_nil)) a_nil))) (mCons_len (mCons_len (mCons_len mNil_len))) rfl) a_nil)) a_nil)))))
    (ss_one (s_ret (e_var (i := 4) rfl (.inl rfl)))))))
theorem ok_law_reach (T : Txt wd K mg base) : OkF P wd K mg base "_law_reach" 2 2 Mi.m_law_reach := OkF.mk' (k := 1) (b := Mi.b_law_reach) T.h_law_reach sc_law_reach rfl rfl rfl fun f cdv A outer s H E hr =>
  (ss_cons (s_setC (i := 2) (own := [("action", 7)]) rfl sc_law_reach.nd rfl rfl (sw_true rfl rfl rfl (by decide +kernel)) (blkOk_by (own := [("action", 7)]) (N := N_law_reach) (sc := defScope s_law_reach) (by decide +kernel)) (by decide) (g_nm 7) (i_any (e_var (i := 0) rfl (.inl rfl))) (fun _ _ _ _ _ => (pg_name (i := 7) sc_law_reach.nd rfl (by exact .inl rfl))) (fun _ _ _ _ _ => ts_nil) (fun _ _ _ _ _ => (e_ix (e_var (i := 7) rfl (by exact .inl rfl)) e_int (fun _ _ => rfl))))
    (ss_cons (s_set (i := 3) sc_law_reach.nd rfl (.inl rfl) (e_cel a_nil))
    (ss_cons (s_for (passes_of rfl) rfl (pg_name (i := 4) sc_law_reach.nd rfl (.inl rfl)) (g_nm 4) (i_any (e_var (i := 1) rfl (.inl rfl))) (ss_one (s_if (c_w (w_and (c_cmp o_in s_in (e_var (i := 4) rfl (.inl rfl)) (e_var (i := 2) rfl (.inl rfl)) rfl) (w_and1 (c_cmp o_notIn s_notIn (e_var (i := 4) rfl (.inl rfl)) (e_var (i := 3) rfl (.inl rfl)) rfl)))) (ss_one (s_exp (e_met PySem.F.plainAttrs_list PySem.F.slot_list_append PySem.F.type_list_append mt_append s_append (e_var (i := 3) rfl (.inl rfl)) (a_cons (e_var (i := 4) rfl (.inl rfl)) a_nil)))) ss_nil)))
    (ss_cons (s_for (passes_of rfl) rfl (pg_name (i := 5) sc_law_reach.nd rfl (.inl rfl)) (g_nm 5) (i_rng1 T.b_range rfl (a_cons (e_cb call_len s_len rfl T.b_len bl_len (a_cons (e_var (i := 0) rfl (.inl rfl)) a_nil)) a_nil)) (ss_one (s_if (c_cmp o_lt s_cmp (e_var (i := 5) rfl (.inl rfl)) (e_cb call_len s_len rfl T.b_len bl_len (a_cons (e_var (i := 3) rfl (.inl rfl)) a_nil)) (nomark _)) (ss_one (s_for (passes_of rfl) rfl (pg_name (i := 6) sc_law_reach.nd rfl (.inl rfl)) (g_nm 6) (i_any (e_f (ok_law_needs T) hr (by decide) (L2N.takes_of rfl rfl rfl rfl) (a_cons (e_var (i := 0) rfl (.inl rfl)) (a_cons (e_ix (e_var (i := 3) rfl (.inl rfl)) (e_var (i := 5) rfl (.inl rfl)) (fun _ _ => rfl)) a_nil)) (mCons_len (mCons_len mNil_len)) rfl)) (ss_one (s_if (c_cmp o_notIn s_notIn (e_var (i := 6) rfl (.inl rfl)) (e_var (i := 3) rfl (.inl rfl)) rfl) (ss_one (s_exp (e_met PySem.F.plainAttrs_list PySem.F.slot_list_append PySem.F.type_list_append mt_append s_append (e_var (i := 3) rfl (.inl rfl)) (a_cons (e_var (i := 6) rfl (.inl rfl)) a_nil)))) ss_nil)))) ss_nil)))
    (ss_one (s_ret (e_var (i := 3) rfl (.inl rfl))))))))
theorem ok_least_in_cycle (T : Txt wd K mg base) : OkF P wd K mg base "least_in_cycle" 3 1 Mi.m_least_in_cycle_2 := OkF.mk' (k := 2) (b := Mi.b_least_in_cycle_2) T.h_least_in_cycle sc_least_in_cycle rfl rfl rfl fun f cdv A outer s H E hr =>
  (ss_cons (s_setDc (i := 1) (own := [("label", 2)]) rfl sc_least_in_cycle.nd rfl rfl (swd_true rfl rfl rfl (by decide +kernel)) (blkOk_by (own := [("label", 2)]) (N := N_least_in_cycle) (sc := defScope s_least_in_cycle) (by decide +kernel)) (by decide) (g_nm 2) (i_any (e_f (ok_ordered T) hr (by decide) (L2N.takes_of rfl rfl rfl rfl) (a_cons (e_var (i := 0) rfl (.inl rfl)) a_nil) (mCons_len mNil_len) rfl)) (fun _ _ _ _ _ => (pg_name (i := 2) sc_least_in_cycle.nd rfl (by exact .inl rfl))) (fun _ _ _ _ _ => ts_nil) (fun _ _ _ _ _ => (e_var (i := 2) rfl (by exact .inl rfl))) (fun _ _ _ _ _ => e_bl))
    (ss_cons (s_for (passes_of rfl) rfl (pg_name (i := 2) sc_least_in_cycle.nd rfl (.inl rfl)) (g_nm 2) (i_any (e_cb (cr_sortKs rfl hr.units) s_sortKs rfl T.b_sorted bl_sorted (a_cons (e_var (i := 0) rfl (.inl rfl)) a_nil))) (ss_one (s_if (c_w (w_and (c_cmp (op_dnotin hr.units) s_dnotin (e_var (i := 2) rfl (.inl rfl)) (e_var (i := 1) rfl (.inl rfl)) rfl) (w_and1 (c_cmp (op_din hr.units) s_din (e_var (i := 2) rfl (.inl rfl)) (e_f (ok_reached T) hr (by decide) (L2N.takes_of rfl rfl rfl rfl) (a_cons (e_var (i := 0) rfl (.inl rfl)) (a_cons (e_dget hr.units (e_var (i := 0) rfl (.inl rfl)) (e_var (i := 2) rfl (.inl rfl)) (fun _ _ => rfl)) a_nil)) (mCons_len (mCons_len mNil_len)) rfl) rfl)))) (ss_one (s_ret (e_var (i := 2) rfl (.inl rfl)))) ss_nil)))
    (ss_one (s_ret e_non))))
theorem ok_law_args (T : Txt wd K mg base) : OkF P wd K mg base "_law_args" 3 3 Mi.m_law_args := OkF.mk' (k := 2) (b := Mi.b_law_args) T.h_law_args sc_law_args rfl rfl rfl fun f cdv A outer s H E hr =>
  (ss_cons (s_set (i := 3) sc_law_args.nd rfl (.inl rfl) (e_dget2 hr.units (e_disp ["join", "pick", "head", "need", "swap"] [(mC (.int 1)), (mC (.int 1)), (mC (.int 1)), (mC (.int 1)), (mC (.int 2))] (pps_cons pe_str e_int (pps_cons pe_str e_int (pps_cons pe_str e_int (pps_cons pe_str e_int (pps_cons pe_str e_int pps_nil))))) rfl rfl rfl (by simp) (by decide)) (e_var (i := 2) rfl (.inl rfl)) e_int ⟨rfl, rfl, rfl, rfl⟩))
    (ss_cons (s_if (c_cmp (o_eq hr.units) s_eq (e_f (ok_law_next T) hr (by decide) (L2N.takes_of rfl rfl rfl rfl) (a_cons (e_var (i := 0) rfl (.inl rfl)) (a_cons (e_var (i := 1) rfl (.inl rfl)) (a_cons e_int a_nil))) (mCons_len (mCons_len (mCons_len mNil_len))) rfl) e_int (nomark _)) (ss_one (s_set (i := 3) sc_law_args.nd rfl (.inl rfl) (e_f (ok_law_next T) hr (by decide) (L2N.takes_of rfl rfl rfl rfl) (a_cons (e_var (i := 0) rfl (.inl rfl)) (a_cons (e_var (i := 1) rfl (.inl rfl)) (a_cons e_int a_nil))) (mCons_len (mCons_len (mCons_len mNil_len))) rfl))) ss_nil)
    (ss_cons (s_set (i := 4) sc_law_args.nd rfl (.inl rfl) (e_cel a_nil))
    (ss_cons (s_for (passes_of rfl) rfl (pg_name (i := 5) sc_law_args.nd rfl (.inl rfl)) (g_nm 5) (i_rng1 T.b_range rfl (a_cons (e_var (i := 3) rfl (.inl rfl)) a_nil)) (ss_cons (s_set (i := 6) sc_law_args.nd rfl (.inl rfl) (e_met PySem.F.plainAttrs_str PySem.F.slot_str_join PySem.F.type_str_join mt_join s_join.met e_str (a_cons (e_comp (own := [("letter", 7)]) rfl sc_law_args.nd (blkOk_by (own := [("letter", 7)]) (N := N_law_args) (sc := defScope s_law_args) (by decide +kernel)) (by decide) (g_nm 7) (i_any (e_sl (e_f (ok_law_words T) hr (by decide) (L2N.takes_of rfl rfl rfl rfl) (a_cons (e_var (i := 0) rfl (.inl rfl)) (a_cons (e_var (i := 1) rfl (.inl rfl)) a_nil)) (mCons_len (mCons_len mNil_len)) rfl) o_none (o_some e_int))) (fun _ _ _ _ _ => (pg_name (i := 7) sc_law_args.nd rfl (by exact .inl rfl))) (fun _ _ _ _ _ => (ts_one (c_cmp (o_ne hr.units) s_ne (e_var (i := 7) rfl (by exact .inl rfl)) e_str (nomark _)))) (fun _ _ _ _ _ => (e_var (i := 7) rfl (by exact .inl rfl)))) a_nil)))
    (ss_cons (s_if (c_w (w_and (c_cmp (o_eq hr.units) s_eq (e_var (i := 2) rfl (.inl rfl)) e_str (nomark _)) (w_and1 (c_cmp o_gt s_cmp (e_f (ok_law_next T) hr (by decide) (L2N.takes_of rfl rfl rfl rfl) (a_cons (e_var (i := 0) rfl (.inl rfl)) (a_cons (e_var (i := 1) rfl (.inl rfl)) (a_cons e_int a_nil))) (mCons_len (mCons_len (mCons_len mNil_len))) rfl) e_int (nomark _))))) (ss_one (s_set (i := 6) sc_law_args.nd rfl (.inl rfl) (e_cty call_str_int s_str rfl T.b_str bl_str (a_cons (e_f (ok_law_next T) hr (by decide) (L2N.takes_of rfl rfl rfl rfl) (a_cons (e_var (i := 0) rfl (.inl rfl)) (a_cons (e_var (i := 1) rfl (.inl rfl)) (a_cons e_int a_nil))) (mCons_len (mCons_len (mCons_len mNil_len))) rfl) a_nil)))) ss_nil)
    (ss_one (s_exp (e_met PySem.F.plainAttrs_list PySem.F.slot_list_append PySem.F.type_list_append mt_append s_append (e_var (i := 4) rfl (.inl rfl)) (a_cons (e_var (i := 6) rfl (.inl rfl)) a_nil)))))))
    (ss_one (s_ret (e_cty call_tuple_of s_tupleOf rfl T.b_tuple bl_tuple (a_cons (e_var (i := 4) rfl (.inl rfl)) a_nil))))))))
theorem ok_law_due (T : Txt wd K mg base) : OkF P wd K mg base "_law_due" 3 1 Mi.m_law_due_8 := OkF.mk' (k := 2) (b := Mi.b_law_due_8) T.h_law_due sc_law_due rfl rfl rfl fun f cdv A outer s H E hr =>
  (ss_cons (s_set (i := 1) sc_law_due.nd rfl (.inr rfl) (e_cb (cr_sortD hr.units) s_sorted rfl T.b_sorted bl_sorted (a_cons (e_comp (own := [("target", 4)]) rfl sc_law_due.nd (blkOk_by (own := [("target", 4)]) (N := N_law_due) (sc := defScope s_law_due) (by decide +kernel)) (by decide) (g_nm 4) (i_any (e_var (i := 0) rfl (.inl rfl))) (fun _ _ _ _ _ => (pg_name (i := 4) sc_law_due.nd rfl (by exact .inl rfl))) (fun _ _ _ _ _ => ts_nil) (fun _ _ _ _ _ => (e_ix (e_var (i := 4) rfl (by exact .inl rfl)) e_int (fun _ _ => rfl)))) a_nil)))
    (ss_cons (s_setC (i := 2) (own := [("label", 7)]) rfl sc_law_due.nd rfl rfl (sw_true rfl rfl rfl (by decide +kernel)) (blkOk_by (own := [("label", 7)]) (N := N_law_due) (sc := defScope s_law_due) (by decide +kernel)) (by decide) (g_nm 7) (i_any (e_var (i := 1) rfl (.inr (.inl rfl)))) (fun _ _ _ _ _ => (pg_name (i := 7) sc_law_due.nd rfl (by exact .inl rfl))) (fun _ _ _ _ _ => (ts_one (c_cmp o_gt s_cmp (e_met PySem.F.plainAttrs_list PySem.F.slot_list_count PySem.F.type_list_count mt_cntT s_cntT.met (e_var (i := 1) rfl (by exact .inr (.inl rfl))) (a_cons (e_var (i := 7) rfl (by exact .inl rfl)) a_nil)) e_int (nomark _)))) (fun _ _ _ _ _ => (e_var (i := 7) rfl (by exact .inl rfl))))
    (ss_cons (s_if (c_cmp o_gt s_cmp (e_cb call_len s_len rfl T.b_len bl_len (a_cons (e_var (i := 2) rfl (.inl rfl)) a_nil)) e_int (nomark _)) (ss_one (s_ret (e_tup (a_cons (e_ix (e_var (i := 2) rfl (.inl rfl)) e_int (fun _ _ => rfl)) (a_cons e_str a_nil))))) ss_nil)
    (ss_cons (s_set (i := 3) sc_law_due.nd rfl (.inl rfl) (e_cel a_nil))
    (ss_cons (s_for (passes_of rfl) rfl (pg_name (i := 4) sc_law_due.nd rfl (.inl rfl)) (g_nm 4) (i_any (e_var (i := 0) rfl (.inl rfl))) (ss_one (s_if (c_cmp o_gt s_cmp (e_cb call_len s_len rfl T.b_len bl_len (a_cons (e_comp (own := [("need", 8)]) rfl sc_law_due.nd (blkOk_by (own := [("need", 8)]) (N := N_law_due) (sc := defScope s_law_due) (by decide +kernel)) (by decide) (g_nm 8) (i_any (e_ix (e_var (i := 4) rfl (.inl rfl)) e_int (fun _ _ => rfl))) (fun _ _ _ _ _ => (pg_name (i := 8) sc_law_due.nd rfl (by exact .inl rfl))) (fun _ _ _ _ _ => (ts_one (c_cmp o_notIn s_notIn (e_var (i := 8) rfl (by exact .inl rfl)) (e_var (i := 1) rfl (by exact .inr (.inl rfl))) rfl))) (fun _ _ _ _ _ => e_int)) a_nil)) e_int (nomark _)) (ss_one (s_exp (e_met PySem.F.plainAttrs_list PySem.F.slot_list_append PySem.F.type_list_append mt_append s_append (e_var (i := 3) rfl (.inl rfl)) (a_cons (e_ix (e_var (i := 4) rfl (.inl rfl)) e_int (fun _ _ => rfl)) a_nil)))) ss_nil)))
    (ss_cons (s_if (c_cmp o_gt s_cmp (e_cb call_len s_len rfl T.b_len bl_len (a_cons (e_var (i := 3) rfl (.inl rfl)) a_nil)) e_int (nomark _)) (ss_one (s_ret (e_tup (a_cons (e_cb (cr_minS rfl hr.units) s_minS rfl T.b_min bl_min (a_cons (e_var (i := 3) rfl (.inl rfl)) a_nil)) (a_cons e_str a_nil))))) ss_nil)
    (ss_cons (s_set (i := 5) sc_law_due.nd rfl (.inr rfl) (e_f (ok_law_graph T) hr (by decide) (L2N.takes_of rfl rfl rfl rfl) (a_cons (e_var (i := 0) rfl (.inl rfl)) a_nil) (mCons_len mNil_len) rfl))
    (ss_cons (s_setC (i := 6) (own := [("label", 7)]) rfl sc_law_due.nd rfl rfl (sw_true rfl rfl rfl (by decide +kernel)) (blkOk_by (own := [("label", 7)]) (N := N_law_due) (sc := defScope s_law_due) (by decide +kernel)) (by decide) (g_nm 7) (i_any (e_var (i := 1) rfl (.inr (.inl rfl)))) (fun _ _ _ _ _ => (pg_name (i := 7) sc_law_due.nd rfl (by exact .inl rfl))) (fun _ _ _ _ _ => (ts_one (c_cmp o_in s_in (e_var (i := 7) rfl (by exact .inl rfl)) (e_f (ok_law_reach T) hr (by decide) none_out (a_cons (e_var (i := 5) rfl (by exact .inr (.inl rfl))) (a_cons (e_f (ok_law_needs T) hr (by decide) none_out (a_cons (e_var (i := 5) rfl (by exact .inr (.inl rfl))) (a_cons (e_var (i := 7) rfl (by exact .inl rfl)) a_nil)) (mCons_len (mCons_len mNil_len)) rfl) a_nil)) (mCons_len (mCons_len mNil_len)) rfl) rfl))) (fun _ _ _ _ _ => (e_var (i := 7) rfl (by exact .inl rfl))))
    (ss_cons (s_if (c_cmp o_gt s_cmp (e_cb call_len s_len rfl T.b_len bl_len (a_cons (e_var (i := 6) rfl (.inl rfl)) a_nil)) e_int (nomark _)) (ss_one (s_ret (e_tup (a_cons (e_ix (e_var (i := 6) rfl (.inl rfl)) e_int (fun _ _ => rfl)) (a_cons e_str a_nil))))) ss_nil)
    (ss_cons (s_if (c_cmp o_gt s_cmp (e_cb call_len s_len rfl T.b_len bl_len (a_cons (e_var (i := 0) rfl (.inl rfl)) a_nil)) e_int (nomark _)) (ss_one (s_ret (e_tup (a_cons (e_ix (e_var (i := 1) rfl (.inr (.inl rfl))) e_int (fun _ _ => rfl)) (a_cons e_str a_nil))))) ss_nil)
    (ss_one (s_ret e_non))))))))))))
theorem ok_make_graph (T : Txt wd K mg base) : OkF P wd K mg base "make_graph" 4 1 Mi.m_make_graph_2 := OkF.mkL (k := 3) (b := Mi.b_make_graph_2) T.h_make_graph sc_make_graph rfl rfl rfl fun f c PT A outer s H E TB0 hmem hu hr =>
  (ss_cons (s_set (i := 1) sc_make_graph.nd rfl (.inl rfl) (e_cb (cr_sortD hr.units) s_sorted rfl T.b_sorted bl_sorted (a_cons (e_comp (own := [("target", 6)]) rfl sc_make_graph.nd (blkOk_by (own := [("target", 6)]) (N := N_make_graph) (sc := defScope s_make_graph) (by decide +kernel)) (by decide) (g_nm 6) (i_any (e_var (i := 0) rfl (.inl rfl))) (fun _ _ _ _ _ => (pg_name (i := 6) sc_make_graph.nd rfl (by exact .inl rfl))) (fun _ _ _ _ _ => ts_nil) (fun _ _ _ _ _ => (e_ix (e_var (i := 6) rfl (by exact .inl rfl)) e_int (fun _ _ => rfl)))) a_nil)))
    (ss_cons (s_for (passes_of rfl) rfl (pg_tup rfl (pgs_cons (pg_name (i := 2) sc_make_graph.nd rfl (.inl rfl)) (pgs_cons (pg_name (i := 3) sc_make_graph.nd rfl (.inl rfl)) pgs_nil))) (g_tp (gs_cons (g_nm 2) (gs_cons (g_nm 3) gs_nil))) (i_zip T.b_zip rfl (a_cons (e_var (i := 1) rfl (.inl rfl)) (a_cons (e_sl (e_var (i := 1) rfl (.inl rfl)) (o_some e_int) o_none) a_nil))) (ss_one (s_if (c_cmp (o_eq hr.units) s_eq (e_var (i := 2) rfl (.inl rfl)) (e_var (i := 3) rfl (.inl rfl)) (nomark _)) (ss_one (s_raiseF (ok_ini_GraphProblem T) hr (by first | decide | omega) rfl (L2N.takes_of rfl rfl rfl rfl) rfl (a_cons (e_var (i := 3) rfl (.inl rfl)) (a_cons e_str a_nil)))) ss_nil)))
    (ss_cons (s_set (i := 4) sc_make_graph.nd rfl (.inr rfl) (e_dcomp (own := [("target", 6)]) rfl sc_make_graph.nd (blkOk_by (own := [("target", 6)]) (N := N_make_graph) (sc := defScope s_make_graph) (by decide +kernel)) (by decide) (g_nm 6) (i_any (e_var (i := 0) rfl (.inl rfl))) (fun _ _ _ _ _ => (pg_name (i := 6) sc_make_graph.nd rfl (by exact .inl rfl))) (fun _ _ _ _ _ => ts_nil) (fun _ _ _ _ _ => (e_ix (e_var (i := 6) rfl (by exact .inl rfl)) e_int (fun _ _ => rfl))) (fun _ _ _ _ _ => (e_ix (e_var (i := 6) rfl (by exact .inl rfl)) e_int (fun _ _ => rfl)))))
    (ss_cons (s_for (passes_of rfl) rfl (pg_name (i := 3) sc_make_graph.nd rfl (.inl rfl)) (g_nm 3) (i_any (e_var (i := 1) rfl (.inl rfl))) (ss_one (s_if (c_val (e_cb (cr_any rfl) s_any rfl T.b_any bl_any (a_cons (e_comp (own := [("need", 7)]) rfl sc_make_graph.nd (blkOk_by (own := [("need", 7)]) (N := N_make_graph) (sc := defScope s_make_graph) (by decide +kernel)) (by decide) (g_nm 7) (i_any (e_dget hr.units (e_var (i := 4) rfl (.inr (.inl rfl))) (e_var (i := 3) rfl (.inl rfl)) (fun _ _ => rfl))) (fun _ _ _ _ _ => (pg_name (i := 7) sc_make_graph.nd rfl (by exact .inl rfl))) (fun _ _ _ _ _ => ts_nil) (fun _ _ _ _ _ => (e_cmp (op_dnotin hr.units) s_dnotin (e_var (i := 7) rfl (by exact .inl rfl)) (e_var (i := 4) rfl (by exact .inr (.inl rfl))) rfl))) a_nil))) (ss_one (s_raiseF (ok_ini_GraphProblem T) hr (by first | decide | omega) rfl (L2N.takes_of rfl rfl rfl rfl) rfl (a_cons (e_var (i := 3) rfl (.inl rfl)) (a_cons e_str a_nil)))) ss_nil)))
    (ss_cons (s_set (i := 5) sc_make_graph.nd rfl (.inl rfl) (e_f (ok_least_in_cycle T) hr (by decide) (L2N.takes_of rfl rfl rfl rfl) (a_cons (e_var (i := 4) rfl (.inr (.inl rfl))) a_nil) (mCons_len mNil_len) rfl))
    (ss_cons (s_if (c_cmp op_notN s_isNot (e_var (i := 5) rfl (.inl rfl)) e_non (nomark _)) (ss_one (s_raiseF (ok_ini_GraphProblem T) hr (by first | decide | omega) rfl (L2N.takes_of rfl rfl rfl rfl) rfl (a_cons (e_var (i := 5) rfl (.inl rfl)) (a_cons e_str a_nil)))) ss_nil)
    (ss_cons (s_if (c_cmp o_gt s_cmp (e_cb call_len s_len rfl T.b_len bl_len (a_cons (e_var (i := 1) rfl (.inl rfl)) a_nil)) (e_gint T.g_MOST_ACTIONS rfl) (nomark _)) (ss_one (s_raiseF (ok_ini_GraphProblem T) hr (by first | decide | omega) rfl (L2N.takes_of rfl rfl rfl rfl) rfl (a_cons (e_ix (e_var (i := 1) rfl (.inl rfl)) e_int (fun _ _ => rfl)) (a_cons e_str a_nil)))) ss_nil)
    (ss_one (s_ret (e_cty call_tuple_of s_tupleOf rfl T.b_tuple bl_tuple (a_cons (e_sortK0 (x := "action") TB0 rfl rfl hmem hu ⟨⟨_, _, _, _, rfl⟩, rfl, rfl, rfl, by decide, by decide, rfl, by decide, fun _ _ _ _ _ _ => rfl⟩ hr T.b_sorted rfl (a_cons (e_comp (own := [("target", 6)]) rfl sc_make_graph.nd (blkOk_by (own := [("target", 6)]) (N := N_make_graph) (sc := defScope s_make_graph) (by decide +kernel)) (by decide) (g_nm 6) (i_any (e_var (i := 0) rfl (.inl rfl))) (fun _ _ _ _ _ => (pg_name (i := 6) sc_make_graph.nd rfl (by exact .inl rfl))) (fun _ _ _ _ _ => ts_nil) (fun _ _ _ _ _ => (e_f (ok_action_from T) hr (by decide) none_out (a_cons (e_var (i := 6) rfl (by exact .inl rfl)) a_nil) (mCons_len mNil_len) rfl))) a_nil)) a_nil)))))))))))
theorem ok_law_targets (T : Txt wd K mg base) : OkF P wd K mg base "_law_targets" 4 3 Mi.m_law_targets := OkF.mk' (k := 3) (b := Mi.b_law_targets) T.h_law_targets sc_law_targets rfl rfl rfl fun f cdv A outer s H E hr =>
  (ss_cons (s_set (i := 3) sc_law_targets.nd rfl (.inr rfl) (e_f (ok_law_labels T) hr (by decide) (L2N.takes_of rfl rfl rfl rfl) (a_cons (e_var (i := 0) rfl (.inr (.inl rfl))) (a_cons (e_var (i := 1) rfl (.inr (.inl rfl))) (a_cons (e_var (i := 2) rfl (.inl rfl)) a_nil))) (mCons_len (mCons_len (mCons_len mNil_len))) rfl))
    (ss_cons (s_set (i := 4) sc_law_targets.nd rfl (.inl rfl) (e_cel a_nil))
    (ss_cons (s_for (passes_of rfl) rfl (pg_name (i := 5) sc_law_targets.nd rfl (.inr rfl)) (g_nm 5) (i_rng1 T.b_range rfl (a_cons (e_cb call_len s_len rfl T.b_len bl_len (a_cons (e_var (i := 3) rfl (.inr (.inl rfl))) a_nil)) a_nil)) (ss_cons (s_set (i := 6) sc_law_targets.nd rfl (.inl rfl) (e_f (ok_law_tool T) hr (by decide) (L2N.takes_of rfl rfl rfl rfl) (a_cons (e_var (i := 0) rfl (.inr (.inl rfl))) (a_cons (e_var (i := 1) rfl (.inr (.inl rfl))) a_nil)) (mCons_len (mCons_len mNil_len)) rfl))
    (ss_cons (s_set (i := 7) sc_law_targets.nd rfl (.inl rfl) (e_f (ok_law_args T) hr (by decide) (L2N.takes_of rfl rfl rfl rfl) (a_cons (e_var (i := 0) rfl (.inr (.inl rfl))) (a_cons (e_var (i := 1) rfl (.inr (.inl rfl))) (a_cons (e_var (i := 6) rfl (.inl rfl)) a_nil))) (mCons_len (mCons_len (mCons_len mNil_len))) rfl))
    (ss_cons (s_set (i := 8) sc_law_targets.nd rfl (.inl rfl) (e_cty call_tuple_of s_tupleOf rfl T.b_tuple bl_tuple (a_cons (e_comp (own := [("j", 10)]) rfl sc_law_targets.nd (blkOk_by (own := [("j", 10)]) (N := N_law_targets) (sc := defScope s_law_targets) (by decide +kernel)) (by decide) (g_nm 10) (i_rng1 T.b_range rfl (a_cons (e_f (ok_law_next T) hr (by decide) (L2N.takes_of rfl rfl rfl rfl) (a_cons (e_var (i := 0) rfl (.inr (.inl rfl))) (a_cons (e_var (i := 1) rfl (.inr (.inl rfl))) (a_cons e_int a_nil))) (mCons_len (mCons_len (mCons_len mNil_len))) rfl) a_nil)) (fun _ _ _ _ _ => (pg_name (i := 10) sc_law_targets.nd rfl (by exact .inl rfl))) (fun _ _ _ _ _ => ts_nil) (fun _ _ _ _ _ => (e_ix (e_lst (a_cons e_str (a_cons e_str (a_cons e_str (a_cons e_str a_nil))))) (e_f (ok_law_next T) hr (by decide) none_out (a_cons (e_var (i := 0) rfl (by exact .inr (.inl rfl))) (a_cons (e_var (i := 1) rfl (by exact .inr (.inl rfl))) (a_cons e_int a_nil))) (mCons_len (mCons_len (mCons_len mNil_len))) rfl) (fun _ _ => rfl)))) a_nil)))
    (ss_cons (s_set (i := 9) sc_law_targets.nd rfl (.inl rfl) (e_tup a_nil))
    (ss_cons (s_if (c_cmp o_gt s_cmp (e_var (i := 5) rfl (.inr (.inl rfl))) e_int (nomark _)) (ss_one (s_set (i := 9) sc_law_targets.nd rfl (.inl rfl) (e_cty call_tuple_of s_tupleOf rfl T.b_tuple bl_tuple (a_cons (e_comp (own := [("j", 10)]) rfl sc_law_targets.nd (blkOk_by (own := [("j", 10)]) (N := N_law_targets) (sc := defScope s_law_targets) (by decide +kernel)) (by decide) (g_nm 10) (i_rng1 T.b_range rfl (a_cons (e_f (ok_law_next T) hr (by decide) (L2N.takes_of rfl rfl rfl rfl) (a_cons (e_var (i := 0) rfl (.inr (.inl rfl))) (a_cons (e_var (i := 1) rfl (.inr (.inl rfl))) (a_cons e_int a_nil))) (mCons_len (mCons_len (mCons_len mNil_len))) rfl) a_nil)) (fun _ _ _ _ _ => (pg_name (i := 10) sc_law_targets.nd rfl (by exact .inl rfl))) (fun _ _ _ _ _ => ts_nil) (fun _ _ _ _ _ => (e_ix (e_var (i := 3) rfl (by exact .inr (.inl rfl))) (e_f (ok_law_next T) hr (by decide) none_out (a_cons (e_var (i := 0) rfl (by exact .inr (.inl rfl))) (a_cons (e_var (i := 1) rfl (by exact .inr (.inl rfl))) (a_cons (e_var (i := 5) rfl (by exact .inr (.inl rfl))) a_nil))) (mCons_len (mCons_len (mCons_len mNil_len))) rfl) (fun _ _ => rfl)))) a_nil)))) ss_nil)
    (ss_one (s_exp (e_met PySem.F.plainAttrs_list PySem.F.slot_list_append PySem.F.type_list_append mt_append s_append (e_var (i := 4) rfl (.inl rfl)) (a_cons (e_tup (a_cons (e_ix (e_var (i := 3) rfl (.inr (.inl rfl))) (e_var (i := 5) rfl (.inr (.inl rfl))) (fun _ _ => rfl)) (a_cons (e_var (i := 6) rfl (.inl rfl)) (a_cons (e_var (i := 7) rfl (.inl rfl)) (a_cons (e_var (i := 8) rfl (.inl rfl)) (a_cons (e_var (i := 9) rfl (.inl rfl)) a_nil)))))) a_nil))))))))))
    (ss_one (s_ret (e_var (i := 4) rfl (.inl rfl)))))))
theorem ok_law_same (T : Txt wd K mg base) : ∀ n : Nat, OkF P wd K mg base "_law_same" (1 + n) 2 (Mi.mm_law_same n)
  | 0 => OkF.zero (k := 1) T.h_law_same rfl
  | n + 1 => OkF.mk' (k := 1 + n) (b := Mi.b_law_same (Mi.mm_law_same n)) T.h_law_same sc_law_same rfl rfl rfl fun f cdv A outer s H E hr =>
  (ss_cons (s_if (c_cmp op_isN s_is (e_var (i := 1) rfl (.inl rfl)) e_non (nomark _)) (ss_one (s_ret (e_cmp op_isN s_is (e_var (i := 0) rfl (.inl rfl)) e_non (nomark _)))) ss_nil)
    (ss_cons (s_if (c_val (e_cb call_isi s_isi rfl T.b_isinstance bl_isinstance (a_cons (e_var (i := 1) rfl (.inl rfl)) (a_cons (e_ty T.b_tuple bl_tuple rfl) a_nil)))) (ss_cons (s_if (c_w (w_or (c_not (c_val (e_cb call_isi s_isi rfl T.b_isinstance bl_isinstance (a_cons (e_var (i := 0) rfl (.inl rfl)) (a_cons (e_ty T.b_tuple bl_tuple rfl) a_nil))))) (w_or1 (c_cmp (o_ne hr.units) s_ne (e_cb call_len s_len rfl T.b_len bl_len (a_cons (e_var (i := 0) rfl (.inl rfl)) a_nil)) (e_cb call_len s_len rfl T.b_len bl_len (a_cons (e_var (i := 1) rfl (.inl rfl)) a_nil)) (nomark _))))) (ss_one (s_ret e_bl)) ss_nil)
    (ss_cons (s_for (passes_of rfl) rfl (pg_name (i := 2) sc_law_same.nd rfl (.inl rfl)) (g_nm 2) (i_rng1 T.b_range rfl (a_cons (e_cb call_len s_len rfl T.b_len bl_len (a_cons (e_var (i := 1) rfl (.inl rfl)) a_nil)) a_nil)) (ss_one (s_if (c_not (c_val (e_f (ok_law_same T n) hr (by omega) (L2N.takes_of rfl rfl rfl rfl) (a_cons (e_ix (e_var (i := 0) rfl (.inl rfl)) (e_var (i := 2) rfl (.inl rfl)) (fun _ _ => rfl)) (a_cons (e_ix (e_var (i := 1) rfl (.inl rfl)) (e_var (i := 2) rfl (.inl rfl)) (fun _ _ => rfl)) a_nil)) (mCons_len (mCons_len mNil_len)) rfl))) (ss_one (s_ret e_bl)) ss_nil)))
    (ss_one (s_ret e_bl)))) ss_nil)
    (ss_cons (s_if (c_val (e_cb call_isi s_isi rfl T.b_isinstance bl_isinstance (a_cons (e_var (i := 1) rfl (.inl rfl)) (a_cons (e_ty T.b_bool bl_bool rfl) a_nil)))) (ss_one (s_ret (e_and (e_cb call_isi s_isi rfl T.b_isinstance bl_isinstance (a_cons (e_var (i := 0) rfl (.inl rfl)) (a_cons (e_ty T.b_bool bl_bool rfl) a_nil))) (e_one (e_cmp (o_eq hr.units) s_eq (e_var (i := 0) rfl (.inl rfl)) (e_var (i := 1) rfl (.inl rfl)) (nomark _)))))) ss_nil)
    (ss_cons (s_if (c_val (e_cb call_isi s_isi rfl T.b_isinstance bl_isinstance (a_cons (e_var (i := 1) rfl (.inl rfl)) (a_cons (e_ty T.b_int bl_int rfl) a_nil)))) (ss_one (s_ret (e_and (e_cb call_isi s_isi rfl T.b_isinstance bl_isinstance (a_cons (e_var (i := 0) rfl (.inl rfl)) (a_cons (e_ty T.b_int bl_int rfl) a_nil))) (e_and (e_not (e_cb call_isi s_isi rfl T.b_isinstance bl_isinstance (a_cons (e_var (i := 0) rfl (.inl rfl)) (a_cons (e_ty T.b_bool bl_bool rfl) a_nil)))) (e_one (e_cmp (o_eq hr.units) s_eq (e_var (i := 0) rfl (.inl rfl)) (e_var (i := 1) rfl (.inl rfl)) (nomark _))))))) ss_nil)
    (ss_one (s_ret (e_and (e_cb call_isi s_isi rfl T.b_isinstance bl_isinstance (a_cons (e_var (i := 0) rfl (.inl rfl)) (a_cons (e_ty T.b_str bl_str rfl) a_nil))) (e_one (e_cmp (o_eq hr.units) s_eq (e_var (i := 0) rfl (.inl rfl)) (e_var (i := 1) rfl (.inl rfl)) (nomark _))))))))))
theorem okm_law_same (T : Txt wd K mg base) : OkF P wd K mg base "_law_same" 13 2 Mi.m_law_same := ok_law_same T 12
theorem okfn_law {f : Addr} {fd : FuncData} (T : Txt wd K mg base) (F : Fun K "law" "law" s_law f fd) : FnOk P wd K mg base (L2N.CX P wd) 14 f fd ["script"] (spM K mg 1 Mi.m_law_35) := okfn' (k := 13) (b := Mi.b_law_35) F sc_law rfl rfl rfl fun cdv A outer s H E hr =>
  (ss_cons (s_set (i := 1) sc_law.nd rfl (.inl rfl) (e_cel (a_cons e_int (a_cons e_int (a_cons e_int a_nil)))))
    (ss_cons (s_set (i := 2) sc_law.nd rfl (.inl rfl) (e_f (ok_law_targets T) hr (by decide) (L2N.takes_of rfl rfl rfl rfl) (a_cons (e_var (i := 1) rfl (.inl rfl)) (a_cons (e_var (i := 0) rfl (.inl rfl)) (a_cons (e_bin o_add s_add e_int (e_f (ok_law_next T) hr (by decide) (L2N.takes_of rfl rfl rfl rfl) (a_cons (e_var (i := 1) rfl (.inl rfl)) (a_cons (e_var (i := 0) rfl (.inl rfl)) (a_cons e_int a_nil))) (mCons_len (mCons_len (mCons_len mNil_len))) rfl)) a_nil))) (mCons_len (mCons_len (mCons_len mNil_len))) rfl))
    (ss_cons (s_set (i := 3) sc_law.nd rfl (.inl rfl) (e_f (ok_law_next T) hr (by decide) (L2N.takes_of rfl rfl rfl rfl) (a_cons (e_var (i := 1) rfl (.inl rfl)) (a_cons (e_var (i := 0) rfl (.inl rfl)) (a_cons e_int a_nil))) (mCons_len (mCons_len (mCons_len mNil_len))) rfl))
    (ss_cons (s_set (i := 4) sc_law.nd rfl (.inl rfl) (e_f (ok_law_next T) hr (by decide) (L2N.takes_of rfl rfl rfl rfl) (a_cons (e_var (i := 1) rfl (.inl rfl)) (a_cons (e_var (i := 0) rfl (.inl rfl)) (a_cons (e_cb call_len s_len rfl T.b_len bl_len (a_cons (e_var (i := 2) rfl (.inl rfl)) a_nil)) a_nil))) (mCons_len (mCons_len (mCons_len mNil_len))) rfl))
    (ss_cons (s_if (c_cmp o_lt s_cmp (e_var (i := 3) rfl (.inl rfl)) e_int (nomark _)) (ss_cons (s_set (i := 5) sc_law.nd rfl (.inl rfl) (e_ix (e_var (i := 2) rfl (.inl rfl)) (e_var (i := 4) rfl (.inl rfl)) (fun _ _ => rfl)))
    (ss_cons (s_set (i := 6) sc_law.nd rfl (.inl rfl) (e_ix (e_ix (e_var (i := 2) rfl (.inl rfl)) (e_f (ok_law_next T) hr (by decide) (L2N.takes_of rfl rfl rfl rfl) (a_cons (e_var (i := 1) rfl (.inl rfl)) (a_cons (e_var (i := 0) rfl (.inl rfl)) (a_cons (e_cb call_len s_len rfl T.b_len bl_len (a_cons (e_var (i := 2) rfl (.inl rfl)) a_nil)) a_nil))) (mCons_len (mCons_len (mCons_len mNil_len))) rfl) (fun _ _ => rfl)) e_int (fun _ _ => rfl)))
    (ss_one (s_sub1 (e_tup (a_cons (e_ix (e_var (i := 5) rfl (.inl rfl)) e_int (fun _ _ => rfl)) (a_cons (e_ix (e_var (i := 5) rfl (.inl rfl)) e_int (fun _ _ => rfl)) (a_cons (e_ix (e_var (i := 5) rfl (.inl rfl)) e_int (fun _ _ => rfl)) (a_cons (e_ix (e_var (i := 5) rfl (.inl rfl)) e_int (fun _ _ => rfl)) (a_cons (e_bin o_add s_add (e_ix (e_var (i := 5) rfl (.inl rfl)) e_int (fun _ _ => rfl)) (e_tup (a_cons (e_var (i := 6) rfl (.inl rfl)) a_nil))) a_nil)))))) (e_var (i := 2) rfl (.inl rfl)) (e_var (i := 4) rfl (.inl rfl)))))) ss_nil)
    (ss_cons (s_if (c_w (w_or (c_cmp (o_eq hr.units) s_eq (e_var (i := 3) rfl (.inl rfl)) e_int (nomark _)) (w_or1 (c_cmp (o_eq hr.units) s_eq (e_var (i := 3) rfl (.inl rfl)) e_int (nomark _))))) (ss_cons (s_set (i := 5) sc_law.nd rfl (.inl rfl) (e_ix (e_var (i := 2) rfl (.inl rfl)) (e_var (i := 4) rfl (.inl rfl)) (fun _ _ => rfl)))
    (ss_one (s_sub1 (e_tup (a_cons (e_ix (e_var (i := 5) rfl (.inl rfl)) e_int (fun _ _ => rfl)) (a_cons (e_ix (e_var (i := 5) rfl (.inl rfl)) e_int (fun _ _ => rfl)) (a_cons (e_ix (e_var (i := 5) rfl (.inl rfl)) e_int (fun _ _ => rfl)) (a_cons (e_ix (e_var (i := 5) rfl (.inl rfl)) e_int (fun _ _ => rfl)) (a_cons (e_bin o_add s_add (e_tup (a_cons (e_bin o_add s_add e_str (e_ix (e_ix (e_var (i := 5) rfl (.inl rfl)) e_int (fun _ _ => rfl)) (e_un un_neg s_neg e_int) (fun _ _ => rfl))) a_nil)) (e_ix (e_var (i := 5) rfl (.inl rfl)) e_int (fun _ _ => rfl))) a_nil)))))) (e_var (i := 2) rfl (.inl rfl)) (e_var (i := 4) rfl (.inl rfl))))) ss_nil)
    (ss_cons (s_if (c_w (w_or (c_cmp (o_eq hr.units) s_eq (e_var (i := 3) rfl (.inl rfl)) e_int (nomark _)) (w_or1 (c_cmp (o_eq hr.units) s_eq (e_var (i := 3) rfl (.inl rfl)) e_int (nomark _))))) (ss_cons (s_set (i := 5) sc_law.nd rfl (.inl rfl) (e_ix (e_var (i := 2) rfl (.inl rfl)) (e_f (ok_law_next T) hr (by decide) (L2N.takes_of rfl rfl rfl rfl) (a_cons (e_var (i := 1) rfl (.inl rfl)) (a_cons (e_var (i := 0) rfl (.inl rfl)) (a_cons (e_cb call_len s_len rfl T.b_len bl_len (a_cons (e_var (i := 2) rfl (.inl rfl)) a_nil)) a_nil))) (mCons_len (mCons_len (mCons_len mNil_len))) rfl) (fun _ _ => rfl)))
    (ss_cons (s_exp (e_met PySem.F.plainAttrs_list PySem.F.slot_list_append PySem.F.type_list_append mt_append s_append (e_var (i := 2) rfl (.inl rfl)) (a_cons (e_tup (a_cons (e_ix (e_var (i := 5) rfl (.inl rfl)) e_int (fun _ _ => rfl)) (a_cons e_str (a_cons (e_tup a_nil) (a_cons (e_tup a_nil) (a_cons (e_tup a_nil) a_nil)))))) a_nil)))
    (ss_one (s_if (c_cmp (o_eq hr.units) s_eq (e_f (ok_law_next T) hr (by decide) (L2N.takes_of rfl rfl rfl rfl) (a_cons (e_var (i := 1) rfl (.inl rfl)) (a_cons (e_var (i := 0) rfl (.inl rfl)) (a_cons e_int a_nil))) (mCons_len (mCons_len (mCons_len mNil_len))) rfl) e_int (nomark _)) (ss_cons (s_set (i := 5) sc_law.nd rfl (.inl rfl) (e_ix (e_var (i := 2) rfl (.inl rfl)) (e_f (ok_law_next T) hr (by decide) (L2N.takes_of rfl rfl rfl rfl) (a_cons (e_var (i := 1) rfl (.inl rfl)) (a_cons (e_var (i := 0) rfl (.inl rfl)) (a_cons (e_cb call_len s_len rfl T.b_len bl_len (a_cons (e_var (i := 2) rfl (.inl rfl)) a_nil)) a_nil))) (mCons_len (mCons_len (mCons_len mNil_len))) rfl) (fun _ _ => rfl)))
    (ss_one (s_exp (e_met PySem.F.plainAttrs_list PySem.F.slot_list_append PySem.F.type_list_append mt_append s_append (e_var (i := 2) rfl (.inl rfl)) (a_cons (e_tup (a_cons (e_ix (e_var (i := 5) rfl (.inl rfl)) e_int (fun _ _ => rfl)) (a_cons e_str (a_cons (e_tup a_nil) (a_cons (e_tup a_nil) (a_cons (e_tup a_nil) a_nil)))))) a_nil))))) ss_nil)))) ss_nil)
    (ss_cons (s_if (c_w (w_and (c_cmp (o_eq hr.units) s_eq (e_var (i := 3) rfl (.inl rfl)) e_int (nomark _)) (w_and1 (c_cmp (o_eq hr.units) s_eq (e_f (ok_law_next T) hr (by decide) (L2N.takes_of rfl rfl rfl rfl) (a_cons (e_var (i := 1) rfl (.inl rfl)) (a_cons (e_var (i := 0) rfl (.inl rfl)) (a_cons e_int a_nil))) (mCons_len (mCons_len (mCons_len mNil_len))) rfl) e_int (nomark _))))) (ss_cons (s_set (i := 7) sc_law.nd rfl (.inl rfl) (e_bin o_add s_add e_int (e_f (ok_law_next T) hr (by decide) (L2N.takes_of rfl rfl rfl rfl) (a_cons (e_var (i := 1) rfl (.inl rfl)) (a_cons (e_var (i := 0) rfl (.inl rfl)) (a_cons e_int a_nil))) (mCons_len (mCons_len (mCons_len mNil_len))) rfl)))
    (ss_cons (s_setCC (i := 2) (own := [("n", 15)]) rfl sc_law.nd rfl rfl (sw_true rfl rfl rfl (by decide +kernel)) (blkOk_by (own := [("n", 15)]) (N := N_law) (sc := defScope s_law) (by decide +kernel)) (by decide) (g_nm 15) (i_rng1 T.b_range rfl (a_cons (e_var (i := 7) rfl (.inl rfl)) a_nil)) (fun _ _ _ _ _ => (pg_name (i := 15) sc_law.nd rfl (by exact .inl rfl))) (fun _ _ _ _ _ => ts_nil) (fun _ _ _ _ _ => (e_tup (a_cons (e_bin o_add s_add e_str (e_cty call_str_int s_str rfl T.b_str bl_str (a_cons (e_var (i := 15) rfl (by exact .inl rfl)) a_nil))) (a_cons e_str (a_cons (e_tup a_nil) (a_cons (e_tup a_nil) (a_cons (e_tup a_nil) a_nil))))))))
    (ss_cons (s_set (i := 4) sc_law.nd rfl (.inl rfl) (e_f (ok_law_next T) hr (by decide) (L2N.takes_of rfl rfl rfl rfl) (a_cons (e_var (i := 1) rfl (.inl rfl)) (a_cons (e_var (i := 0) rfl (.inl rfl)) (a_cons (e_var (i := 7) rfl (.inl rfl)) a_nil))) (mCons_len (mCons_len (mCons_len mNil_len))) rfl))
    (ss_cons (s_set (i := 8) sc_law.nd rfl (.inl rfl) (e_ix (e_lst (a_cons (e_tup a_nil) (a_cons (e_tup a_nil) (a_cons (e_tup (a_cons e_str a_nil)) (a_cons (e_tup (a_cons (e_bin o_add s_add e_str (e_cty call_str_int s_str rfl T.b_str bl_str (a_cons (e_var (i := 4) rfl (.inl rfl)) a_nil))) a_nil)) a_nil))))) (e_f (ok_law_next T) hr (by decide) (L2N.takes_of rfl rfl rfl rfl) (a_cons (e_var (i := 1) rfl (.inl rfl)) (a_cons (e_var (i := 0) rfl (.inl rfl)) (a_cons e_int a_nil))) (mCons_len (mCons_len (mCons_len mNil_len))) rfl) (fun _ _ => rfl)))
    (ss_cons (s_sub1 (e_tup (a_cons (e_bin o_add s_add e_str (e_cty call_str_int s_str rfl T.b_str bl_str (a_cons (e_var (i := 4) rfl (.inl rfl)) a_nil))) (a_cons e_str (a_cons (e_tup a_nil) (a_cons (e_tup a_nil) (a_cons (e_var (i := 8) rfl (.inl rfl)) a_nil)))))) (e_var (i := 2) rfl (.inl rfl)) (e_var (i := 4) rfl (.inl rfl)))
    (ss_cons (s_if (c_cmp (o_eq hr.units) s_eq (e_f (ok_law_next T) hr (by decide) (L2N.takes_of rfl rfl rfl rfl) (a_cons (e_var (i := 1) rfl (.inl rfl)) (a_cons (e_var (i := 0) rfl (.inl rfl)) (a_cons e_int a_nil))) (mCons_len (mCons_len (mCons_len mNil_len))) rfl) e_int (nomark _)) (ss_one (s_set (i := 2) sc_law.nd rfl (.inl rfl) (e_f (ok_law_chain T) hr (by decide) (L2N.takes_of rfl rfl rfl rfl) (a_cons (e_var (i := 7) rfl (.inl rfl)) (a_cons (e_f (ok_law_next T) hr (by decide) (L2N.takes_of rfl rfl rfl rfl) (a_cons (e_var (i := 1) rfl (.inl rfl)) (a_cons (e_var (i := 0) rfl (.inl rfl)) (a_cons e_int a_nil))) (mCons_len (mCons_len (mCons_len mNil_len))) rfl) a_nil)) (mCons_len (mCons_len mNil_len)) rfl))) ss_nil)
    (ss_one (s_if (c_cmp (o_eq hr.units) s_eq (e_f (ok_law_next T) hr (by decide) (L2N.takes_of rfl rfl rfl rfl) (a_cons (e_var (i := 1) rfl (.inl rfl)) (a_cons (e_var (i := 0) rfl (.inl rfl)) (a_cons e_int a_nil))) (mCons_len (mCons_len (mCons_len mNil_len))) rfl) e_int (nomark _)) (ss_one (s_exp (e_met PySem.F.plainAttrs_list PySem.F.slot_list_append PySem.F.type_list_append mt_append s_append (e_var (i := 2) rfl (.inl rfl)) (a_cons (e_ix (e_var (i := 2) rfl (.inl rfl)) (e_f (ok_law_next T) hr (by decide) (L2N.takes_of rfl rfl rfl rfl) (a_cons (e_var (i := 1) rfl (.inl rfl)) (a_cons (e_var (i := 0) rfl (.inl rfl)) (a_cons (e_var (i := 7) rfl (.inl rfl)) a_nil))) (mCons_len (mCons_len (mCons_len mNil_len))) rfl) (fun _ _ => rfl)) a_nil)))) ss_nil)))))))) ss_nil)
    (ss_cons (s_for (passes_of rfl) rfl (pg_name (i := 9) sc_law.nd rfl (.inl rfl)) (g_nm 9) (i_rng1 T.b_range rfl (a_cons (e_ix (e_lst (a_cons e_int (a_cons e_int (a_cons e_int (a_cons e_int (a_cons e_int a_nil)))))) (e_f (ok_law_next T) hr (by decide) (L2N.takes_of rfl rfl rfl rfl) (a_cons (e_var (i := 1) rfl (.inl rfl)) (a_cons (e_var (i := 0) rfl (.inl rfl)) (a_cons e_int a_nil))) (mCons_len (mCons_len (mCons_len mNil_len))) rfl) (fun _ _ => rfl)) a_nil)) (ss_cons (s_set (i := 4) sc_law.nd rfl (.inl rfl) (e_f (ok_law_next T) hr (by decide) (L2N.takes_of rfl rfl rfl rfl) (a_cons (e_var (i := 1) rfl (.inl rfl)) (a_cons (e_var (i := 0) rfl (.inl rfl)) (a_cons (e_cb call_len s_len rfl T.b_len bl_len (a_cons (e_var (i := 2) rfl (.inl rfl)) a_nil)) a_nil))) (mCons_len (mCons_len (mCons_len mNil_len))) rfl))
    (ss_cons (s_set (i := 5) sc_law.nd rfl (.inl rfl) (e_ix (e_var (i := 2) rfl (.inl rfl)) (e_var (i := 4) rfl (.inl rfl)) (fun _ _ => rfl)))
    (ss_one (s_sub1 (e_tup (a_cons (e_ix (e_var (i := 5) rfl (.inl rfl)) e_int (fun _ _ => rfl)) (a_cons (e_ix (e_var (i := 5) rfl (.inl rfl)) e_int (fun _ _ => rfl)) (a_cons (e_ix (e_var (i := 5) rfl (.inl rfl)) e_int (fun _ _ => rfl)) (a_cons (e_ix (e_var (i := 5) rfl (.inl rfl)) e_int (fun _ _ => rfl)) (a_cons (e_bin o_add s_add (e_ix (e_var (i := 5) rfl (.inl rfl)) e_int (fun _ _ => rfl)) (e_tup (a_cons (e_bin o_add s_add e_str (e_ix (e_ix (e_var (i := 5) rfl (.inl rfl)) e_int (fun _ _ => rfl)) (e_un un_neg s_neg e_int) (fun _ _ => rfl))) a_nil))) a_nil)))))) (e_var (i := 2) rfl (.inl rfl)) (e_var (i := 4) rfl (.inl rfl)))))))
    (ss_cons (s_set (i := 10) sc_law.nd rfl (.inl rfl) (e_f (ok_law_shuffled T) hr (by decide) (L2N.takes_of rfl rfl rfl rfl) (a_cons (e_var (i := 1) rfl (.inl rfl)) (a_cons (e_var (i := 0) rfl (.inl rfl)) (a_cons (e_var (i := 2) rfl (.inl rfl)) a_nil))) (mCons_len (mCons_len (mCons_len mNil_len))) rfl))
    (ss_cons (s_set (i := 11) sc_law.nd rfl (.inl rfl) (e_cty call_list_of s_listOf rfl T.b_list bl_list (a_cons (e_var (i := 10) rfl (.inl rfl)) a_nil)))
    (ss_cons (s_set (i := 12) sc_law.nd rfl (.inl rfl) (e_f (ok_law_due T) hr (by decide) (L2N.takes_of rfl rfl rfl rfl) (a_cons (e_var (i := 2) rfl (.inl rfl)) a_nil) (mCons_len mNil_len) rfl))
    (ss_cons (s_tryAs (i := 14) rfl rfl sc_law.nd rfl rfl rfl (L2N.takes_of rfl rfl rfl rfl) T.k_GraphProblem (fun W1 pn1 xe1 tk1 hp1 => (ss_one (s_set (i := 13) sc_law.nd rfl (.inl rfl) (e_f (ok_make_graph T) hr (by decide) tk1 (a_cons (e_var (i := 10) rfl (.inl rfl)) a_nil) (mCons_len mNil_len) rfl)))) (fun c1 hc1 cv1 fs a oe d pn hm1 hz1 hf1 => by
    simp only [List.mem_cons, List.not_mem_nil, or_false] at hc1
    rcases hc1 with rfl
    · obtain ⟨C0, hC0, q0⟩ := T.q_GraphProblem
      cases hm1.symm.trans hC0
      exact (ss_cons' (ss_if (st_w (sw_or (st_of (c_cmp op_isN s_is (e_var (i := 12) rfl (.inl rfl)) e_non (nomark _))) (sw_or1 (st_not (st_val (let ⟨CD, hD, kD⟩ := T.i_GraphProblem_MillError hC0; sp_is q0 hz1.zc hf1 (i := 14) rfl (.inl rfl) (pe_glob (v := .ref CD) rfl hD rfl (by decide)) (fun _ z => z) kD rfl T.b_isinstance)))))) (ss_one' (ss_ret (sp_of e_bl))) ss_nil') (ss_one' (ss_ret (sp_and (sp_call (okhm_law_same T) hr (by first | decide | omega) hz1 hf1 (sa_cons (sp_tup (sa_cons (sp_xf (T.x_GraphProblem hC0) (T.f_GraphProblem_label hC0) hz1.zc hf1 (i := 14) rfl (.inl rfl)) (sa_cons (sp_xf (T.x_GraphProblem hC0) (T.f_GraphProblem_reason hC0) hz1.zc hf1 (i := 14) rfl (.inl rfl)) (sa_of a_nil)))) (sa_cons (sp_of (e_var (i := 12) rfl (.inl rfl))) (sa_of a_nil))) (mCons_len (mCons_len mNil_len)) rfl) (sp_one (sp_of (e_cmp (o_eq hr.units) s_eq (e_var (i := 10) rfl (.inl rfl)) (e_var (i := 11) rfl (.inl rfl)) (nomark _))))))) (.inr trivial))))
    (ss_one (s_ret (e_and (e_cmp op_isN s_is (e_var (i := 12) rfl (.inl rfl)) e_non (nomark _)) (e_and (e_f (okm_law_same T) hr (by decide) (L2N.takes_of rfl rfl rfl rfl) (a_cons (e_var (i := 13) rfl (.inl rfl)) (a_cons (e_f (ok_law_graph T) hr (by decide) (L2N.takes_of rfl rfl rfl rfl) (a_cons (e_var (i := 2) rfl (.inl rfl)) a_nil) (mCons_len mNil_len) rfl) a_nil)) (mCons_len (mCons_len mNil_len)) rfl) (e_one (e_cmp (o_eq hr.units) s_eq (e_var (i := 10) rfl (.inl rfl)) (e_var (i := 11) rfl (.inl rfl)) (nomark _))))))))))))))))))))
end
end
theorem end_ {q : Program} {loose : List Str} {mean : ExcName → Option Value} {mb : Str → Option Value} {l : PySem.W.OpenLaw} {w : World} {K : PySem.W.Frag} {h : Heap} {mg : Str → Option Value} {fa : Addr} (X : K.In h) (TP : Top q loose mean mg mb h) (hfa : mg "law" = some (.ref fa)) (nt : PySem.W.noTabs K = true)
    {f1 : Addr} {oc1 kV1 dc1 pm1 cd1 ct1 : Value} {od1 an1 : Option Addr} {sl1 : Array (Option Value)}
    {f2 : Addr} {oc2 kV2 dc2 pm2 cd2 ct2 : Value} {od2 an2 : Option Addr} {sl2 : Array (Option Value)}
    {f3 : Addr} {oc3 kV3 dc3 pm3 cd3 ct3 : Value} {od3 an3 : Option Addr} {sl3 : Array (Option Value)}
    {f4 : Addr} {oc4 kV4 dc4 pm4 cd4 ct4 : Value} {od4 an4 : Option Addr} {sl4 : Array (Option Value)}
    {f5 : Addr} {oc5 kV5 dc5 pm5 cd5 ct5 : Value} {od5 an5 : Option Addr} {sl5 : Array (Option Value)}
    {f6 : Addr} {oc6 kV6 dc6 pm6 cd6 ct6 : Value} {od6 an6 : Option Addr} {sl6 : Array (Option Value)}
    {f7 : Addr} {oc7 kV7 dc7 pm7 cd7 ct7 : Value} {od7 an7 : Option Addr} {sl7 : Array (Option Value)}
    {f8 : Addr} {oc8 kV8 dc8 pm8 cd8 ct8 : Value} {od8 an8 : Option Addr} {sl8 : Array (Option Value)}
    {f9 : Addr} {oc9 kV9 dc9 pm9 cd9 ct9 : Value} {od9 an9 : Option Addr} {sl9 : Array (Option Value)}
    {f10 : Addr} {oc10 kV10 dc10 pm10 cd10 ct10 : Value} {od10 an10 : Option Addr} {sl10 : Array (Option Value)}
    {f11 : Addr} {oc11 kV11 dc11 pm11 cd11 ct11 : Value} {od11 an11 : Option Addr} {sl11 : Array (Option Value)}
    {f12 : Addr} {oc12 kV12 dc12 pm12 cd12 ct12 : Value} {od12 an12 : Option Addr} {sl12 : Array (Option Value)}
    {f13 : Addr} {oc13 kV13 dc13 pm13 cd13 ct13 : Value} {od13 an13 : Option Addr} {sl13 : Array (Option Value)}
    {f14 : Addr} {oc14 kV14 dc14 pm14 cd14 ct14 : Value} {od14 an14 : Option Addr} {sl14 : Array (Option Value)}
    {f15 : Addr} {oc15 kV15 dc15 pm15 cd15 ct15 : Value} {od15 an15 : Option Addr} {sl15 : Array (Option Value)}
    {f16 : Addr} {oc16 kV16 dc16 pm16 cd16 ct16 : Value} {od16 an16 : Option Addr} {sl16 : Array (Option Value)}
    {f17 : Addr} {oc17 kV17 dc17 pm17 cd17 ct17 : Value} {od17 an17 : Option Addr} {sl17 : Array (Option Value)}
    {f18 : Addr} {oc18 kV18 dc18 pm18 cd18 ct18 : Value} {od18 an18 : Option Addr} {sl18 : Array (Option Value)}
    {f19 : Addr} {oc19 kV19 dc19 pm19 cd19 ct19 : Value} {od19 an19 : Option Addr} {sl19 : Array (Option Value)}
    {f20 : Addr} {oc20 kV20 dc20 pm20 cd20 ct20 : Value} {od20 an20 : Option Addr} {sl20 : Array (Option Value)}
    {t_MOST_ACTIONS : Tok}
    {c_law_graph P_law_graph : Addr} {d_law_graph : DefRec}
    {c_make_graph P_make_graph : Addr} {d_make_graph : DefRec}
    {cz_GraphProblem : Addr}
    {cz_MillError : Addr}
    {ci_GraphProblem : Addr} {co_GraphProblem ck_GraphProblem cd1_GraphProblem cp_GraphProblem cc_GraphProblem ct_GraphProblem : Value} {cod_GraphProblem can_GraphProblem : Option Addr} {csl_GraphProblem : Array (Option Value)} {cnm_GraphProblem cq_GraphProblem : Str} {cN_GraphProblem : Addr} {cbs_GraphProblem cbm_GraphProblem : List Value} {csn_GraphProblem : List Str} {csu_GraphProblem : List Value} {cab_GraphProblem : Bool} {ccl_GraphProblem : Option Bool} {cdd_GraphProblem : Option Addr} {cm0_GraphProblem cm1_GraphProblem cm2_GraphProblem cm3_GraphProblem cm5_GraphProblem : Option Value}
    {f0 : Addr} {oc0 kV0 dc0 pm0 cd0 ct0 : Value} {od0 an0 : Option Addr} {sl0 : Array (Option Value)}
    (a0 : PySem.W.nsIn K mainGlobals "law" = some (some (.ref f0))) (l0 : K.lookup f0 = some ⟨oc0, od0, .func (PySem.W.fnOf "law" "law" (defArgs s_law) (defBody s_law) (defScope s_law) .none kV0 dc0 pm0 an0 cd0 ct0), sl0⟩) (c0 : PySem.W.codeIn K cd0 "law" = true) (k0 : PySem.W.keepIn K (.ref f0) = true)
    (a1 : PySem.W.nsIn K mainGlobals "action_from" = some (some (.ref f1))) (l1 : K.lookup f1 = some ⟨oc1, od1, .func (PySem.W.fnOf "action_from" "action_from" (defArgs s_action_from) (defBody s_action_from) (defScope s_action_from) .none kV1 dc1 pm1 an1 cd1 ct1), sl1⟩) (c1 : PySem.W.codeIn K cd1 "action_from" = true) (k1 : PySem.W.keepIn K (.ref f1) = true)
    (a2 : PySem.W.nsIn K mainGlobals "turned_round" = some (some (.ref f2))) (l2 : K.lookup f2 = some ⟨oc2, od2, .func (PySem.W.fnOf "turned_round" "turned_round" (defArgs s_turned_round) (defBody s_turned_round) (defScope s_turned_round) .none kV2 dc2 pm2 an2 cd2 ct2), sl2⟩) (c2 : PySem.W.codeIn K cd2 "turned_round" = true) (k2 : PySem.W.keepIn K (.ref f2) = true)
    (a3 : PySem.W.nsIn K mainGlobals "reached" = some (some (.ref f3))) (l3 : K.lookup f3 = some ⟨oc3, od3, .func (PySem.W.fnOf "reached" "reached" (defArgs s_reached) (defBody s_reached) (defScope s_reached) .none kV3 dc3 pm3 an3 cd3 ct3), sl3⟩) (c3 : PySem.W.codeIn K cd3 "reached" = true) (k3 : PySem.W.keepIn K (.ref f3) = true)
    (a4 : PySem.W.nsIn K mainGlobals "_law_next" = some (some (.ref f4))) (l4 : K.lookup f4 = some ⟨oc4, od4, .func (PySem.W.fnOf "_law_next" "_law_next" (defArgs s_law_next) (defBody s_law_next) (defScope s_law_next) .none kV4 dc4 pm4 an4 cd4 ct4), sl4⟩) (c4 : PySem.W.codeIn K cd4 "_law_next" = true) (k4 : PySem.W.keepIn K (.ref f4) = true)
    (a5 : PySem.W.nsIn K mainGlobals "_law_char" = some (some (.ref f5))) (l5 : K.lookup f5 = some ⟨oc5, od5, .func (PySem.W.fnOf "_law_char" "_law_char" (defArgs s_law_char) (defBody s_law_char) (defScope s_law_char) .none kV5 dc5 pm5 an5 cd5 ct5), sl5⟩) (c5 : PySem.W.codeIn K cd5 "_law_char" = true) (k5 : PySem.W.keepIn K (.ref f5) = true)
    (a6 : PySem.W.nsIn K mainGlobals "_law_graph" = some (some (.ref f6))) (l6 : K.lookup f6 = some ⟨oc6, od6, .func (PySem.W.fnOf "_law_graph" "_law_graph" (defArgs s_law_graph) (defBody s_law_graph) (defScope s_law_graph) .none kV6 dc6 pm6 an6 cd6 ct6), sl6⟩) (c6 : PySem.W.codeIn K cd6 "_law_graph" = true) (k6 : PySem.W.keepIn K (.ref f6) = true)
    (a7 : PySem.W.nsIn K mainGlobals "_law_needs" = some (some (.ref f7))) (l7 : K.lookup f7 = some ⟨oc7, od7, .func (PySem.W.fnOf "_law_needs" "_law_needs" (defArgs s_law_needs) (defBody s_law_needs) (defScope s_law_needs) .none kV7 dc7 pm7 an7 cd7 ct7), sl7⟩) (c7 : PySem.W.codeIn K cd7 "_law_needs" = true) (k7 : PySem.W.keepIn K (.ref f7) = true)
    (a8 : PySem.W.nsIn K mainGlobals "_law_chain" = some (some (.ref f8))) (l8 : K.lookup f8 = some ⟨oc8, od8, .func (PySem.W.fnOf "_law_chain" "_law_chain" (defArgs s_law_chain) (defBody s_law_chain) (defScope s_law_chain) .none kV8 dc8 pm8 an8 cd8 ct8), sl8⟩) (c8 : PySem.W.codeIn K cd8 "_law_chain" = true) (k8 : PySem.W.keepIn K (.ref f8) = true)
    (a9 : PySem.W.nsIn K mainGlobals "ordered" = some (some (.ref f9))) (l9 : K.lookup f9 = some ⟨oc9, od9, .func (PySem.W.fnOf "ordered" "ordered" (defArgs s_ordered) (defBody s_ordered) (defScope s_ordered) .none kV9 dc9 pm9 an9 cd9 ct9), sl9⟩) (c9 : PySem.W.codeIn K cd9 "ordered" = true) (k9 : PySem.W.keepIn K (.ref f9) = true)
    (a10 : PySem.W.nsIn K mainGlobals "_law_words" = some (some (.ref f10))) (l10 : K.lookup f10 = some ⟨oc10, od10, .func (PySem.W.fnOf "_law_words" "_law_words" (defArgs s_law_words) (defBody s_law_words) (defScope s_law_words) .none kV10 dc10 pm10 an10 cd10 ct10), sl10⟩) (c10 : PySem.W.codeIn K cd10 "_law_words" = true) (k10 : PySem.W.keepIn K (.ref f10) = true)
    (a11 : PySem.W.nsIn K mainGlobals "_law_tool" = some (some (.ref f11))) (l11 : K.lookup f11 = some ⟨oc11, od11, .func (PySem.W.fnOf "_law_tool" "_law_tool" (defArgs s_law_tool) (defBody s_law_tool) (defScope s_law_tool) .none kV11 dc11 pm11 an11 cd11 ct11), sl11⟩) (c11 : PySem.W.codeIn K cd11 "_law_tool" = true) (k11 : PySem.W.keepIn K (.ref f11) = true)
    (a12 : PySem.W.nsIn K mainGlobals "_law_labels" = some (some (.ref f12))) (l12 : K.lookup f12 = some ⟨oc12, od12, .func (PySem.W.fnOf "_law_labels" "_law_labels" (defArgs s_law_labels) (defBody s_law_labels) (defScope s_law_labels) .none kV12 dc12 pm12 an12 cd12 ct12), sl12⟩) (c12 : PySem.W.codeIn K cd12 "_law_labels" = true) (k12 : PySem.W.keepIn K (.ref f12) = true)
    (a13 : PySem.W.nsIn K mainGlobals "_law_shuffled" = some (some (.ref f13))) (l13 : K.lookup f13 = some ⟨oc13, od13, .func (PySem.W.fnOf "_law_shuffled" "_law_shuffled" (defArgs s_law_shuffled) (defBody s_law_shuffled) (defScope s_law_shuffled) .none kV13 dc13 pm13 an13 cd13 ct13), sl13⟩) (c13 : PySem.W.codeIn K cd13 "_law_shuffled" = true) (k13 : PySem.W.keepIn K (.ref f13) = true)
    (a14 : PySem.W.nsIn K mainGlobals "_law_reach" = some (some (.ref f14))) (l14 : K.lookup f14 = some ⟨oc14, od14, .func (PySem.W.fnOf "_law_reach" "_law_reach" (defArgs s_law_reach) (defBody s_law_reach) (defScope s_law_reach) .none kV14 dc14 pm14 an14 cd14 ct14), sl14⟩) (c14 : PySem.W.codeIn K cd14 "_law_reach" = true) (k14 : PySem.W.keepIn K (.ref f14) = true)
    (a15 : PySem.W.nsIn K mainGlobals "least_in_cycle" = some (some (.ref f15))) (l15 : K.lookup f15 = some ⟨oc15, od15, .func (PySem.W.fnOf "least_in_cycle" "least_in_cycle" (defArgs s_least_in_cycle) (defBody s_least_in_cycle) (defScope s_least_in_cycle) .none kV15 dc15 pm15 an15 cd15 ct15), sl15⟩) (c15 : PySem.W.codeIn K cd15 "least_in_cycle" = true) (k15 : PySem.W.keepIn K (.ref f15) = true)
    (a16 : PySem.W.nsIn K mainGlobals "_law_args" = some (some (.ref f16))) (l16 : K.lookup f16 = some ⟨oc16, od16, .func (PySem.W.fnOf "_law_args" "_law_args" (defArgs s_law_args) (defBody s_law_args) (defScope s_law_args) .none kV16 dc16 pm16 an16 cd16 ct16), sl16⟩) (c16 : PySem.W.codeIn K cd16 "_law_args" = true) (k16 : PySem.W.keepIn K (.ref f16) = true)
    (a17 : PySem.W.nsIn K mainGlobals "_law_due" = some (some (.ref f17))) (l17 : K.lookup f17 = some ⟨oc17, od17, .func (PySem.W.fnOf "_law_due" "_law_due" (defArgs s_law_due) (defBody s_law_due) (defScope s_law_due) .none kV17 dc17 pm17 an17 cd17 ct17), sl17⟩) (c17 : PySem.W.codeIn K cd17 "_law_due" = true) (k17 : PySem.W.keepIn K (.ref f17) = true)
    (a18 : PySem.W.nsIn K mainGlobals "make_graph" = some (some (.ref f18))) (l18 : K.lookup f18 = some ⟨oc18, od18, .func (PySem.W.fnOf "make_graph" "make_graph" (defArgs s_make_graph) (defBody s_make_graph) (defScope s_make_graph) .none kV18 dc18 pm18 an18 cd18 ct18), sl18⟩) (c18 : PySem.W.codeIn K cd18 "make_graph" = true) (k18 : PySem.W.keepIn K (.ref f18) = true)
    (a19 : PySem.W.nsIn K mainGlobals "_law_targets" = some (some (.ref f19))) (l19 : K.lookup f19 = some ⟨oc19, od19, .func (PySem.W.fnOf "_law_targets" "_law_targets" (defArgs s_law_targets) (defBody s_law_targets) (defScope s_law_targets) .none kV19 dc19 pm19 an19 cd19 ct19), sl19⟩) (c19 : PySem.W.codeIn K cd19 "_law_targets" = true) (k19 : PySem.W.keepIn K (.ref f19) = true)
    (a20 : PySem.W.nsIn K mainGlobals "_law_same" = some (some (.ref f20))) (l20 : K.lookup f20 = some ⟨oc20, od20, .func (PySem.W.fnOf "_law_same" "_law_same" (defArgs s_law_same) (defBody s_law_same) (defScope s_law_same) .none kV20 dc20 pm20 an20 cd20 ct20), sl20⟩) (c20 : PySem.W.codeIn K cd20 "_law_same" = true) (k20 : PySem.W.keepIn K (.ref f20) = true)
    (z_abs : PySem.W.nsIn K mainGlobals "abs" = some none)
    (z_any : PySem.W.nsIn K mainGlobals "any" = some none)
    (z_bool : PySem.W.nsIn K mainGlobals "bool" = some none)
    (z_int : PySem.W.nsIn K mainGlobals "int" = some none)
    (z_isinstance : PySem.W.nsIn K mainGlobals "isinstance" = some none)
    (z_len : PySem.W.nsIn K mainGlobals "len" = some none)
    (z_list : PySem.W.nsIn K mainGlobals "list" = some none)
    (z_min : PySem.W.nsIn K mainGlobals "min" = some none)
    (z_range : PySem.W.nsIn K mainGlobals "range" = some none)
    (z_sorted : PySem.W.nsIn K mainGlobals "sorted" = some none)
    (z_str : PySem.W.nsIn K mainGlobals "str" = some none)
    (z_tuple : PySem.W.nsIn K mainGlobals "tuple" = some none)
    (z_zip : PySem.W.nsIn K mainGlobals "zip" = some none)
    (y_heappop : PySem.W.nsIn K mainGlobals "heappop" = some (some (.builtin "_heapq.heappop")))
    (y_heappush : PySem.W.nsIn K mainGlobals "heappush" = some (some (.builtin "_heapq.heappush")))
    (q_MOST_ACTIONS : PySem.W.nsIn K mainGlobals "MOST_ACTIONS" = some (some (.int 60 t_MOST_ACTIONS)))
    (tb_law_graph : PySem.W.tabIn K "_law_graph" = some (c_law_graph, P_law_graph)) (hr_law_graph : (recsOf q).find? (fun e => e.name == ("_law_graph" : Str)) = some d_law_graph)
    (tb_make_graph : PySem.W.tabIn K "make_graph" = some (c_make_graph, P_make_graph)) (hr_make_graph : (recsOf q).find? (fun e => e.name == ("make_graph" : Str)) = some d_make_graph)
    (ne_law_graph_make_graph : P_law_graph ≠ P_make_graph)
    (cn_GraphProblem : PySem.W.nsIn K mainGlobals "GraphProblem" = some (some (.ref cz_GraphProblem)))
    (ic_GraphProblem : (PySem.W.clsIn K cz_GraphProblem).isSome = true)
    (ga_GraphProblem : PySem.W.findIn K (.ref cz_GraphProblem) "__getattribute__" = some (some (.builtin "BaseException.__getattribute__")))
    (gt_GraphProblem : PySem.W.findIn K (.ref cz_GraphProblem) "__getattr__" = some none)
    (sb_GraphProblem : PySem.W.subIn K (.ref cz_GraphProblem) (.type "BaseException") = some true)
    (gc_GraphProblem : PySem.W.findIn K (.ref cz_GraphProblem) "__class__" = some (some (.builtin "object.__class__")))
    (spc : PySem.W.specialIn K (.builtin "object.__class__") "__get__" = some (some (.builtin "getset_descriptor.__get__")))
    (tkc : PySem.W.takesIn K (.builtin "object.__class__") = some true)
    (mr_GraphProblem : PySem.W.mroIn K cz_GraphProblem (.type "object") = some true)
    (hd_GraphProblem : PySem.W.hasDictIn K cz_GraphProblem = true)
    (ty_GraphProblem : PySem.W.typeIn K (.ref cz_GraphProblem) = some (.type "type"))
    (su_GraphProblem_GraphProblem : PySem.W.subIn K (.ref cz_GraphProblem) (.ref cz_GraphProblem) = some true)
    (cn_MillError : PySem.W.nsIn K mainGlobals "MillError" = some (some (.ref cz_MillError)))
    (ko_GraphProblem_MillError : PySem.W.kitOne K (.ref cz_GraphProblem) (.ref cz_MillError) = some true)
    (nf_GraphProblem_label : PySem.W.findIn K (.ref cz_GraphProblem) "label" = some none)
    (nf_GraphProblem_reason : PySem.W.findIn K (.ref cz_GraphProblem) "reason" = some none)
    (xl_GraphProblem : K.lookup cz_GraphProblem = some (excClassObj cnm_GraphProblem cq_GraphProblem cz_GraphProblem cN_GraphProblem cbs_GraphProblem cbm_GraphProblem true csn_GraphProblem csu_GraphProblem cab_GraphProblem ccl_GraphProblem cdd_GraphProblem cm0_GraphProblem cm1_GraphProblem cm2_GraphProblem cm3_GraphProblem cm5_GraphProblem "ValueError.__new__"))
    (xr_GraphProblem : PySem.HandSPX.refsVE cbm_GraphProblem = true)
    (sa_GraphProblem : PySem.W.findIn K (.ref cz_GraphProblem) "__setattr__" = some (some (.builtin "object.__setattr__")))
    (kp_GraphProblem : PySem.W.keepIn K (.ref cz_GraphProblem) = true)
    (in_GraphProblem : PySem.W.findIn K (.ref cz_GraphProblem) "__init__" = some (some (.ref ci_GraphProblem)))
    (it_GraphProblem : PySem.W.typeIn K (.ref ci_GraphProblem) = some (.type "function"))
    (il_GraphProblem : K.lookup ci_GraphProblem = some ⟨co_GraphProblem, cod_GraphProblem, .func (PySem.W.fnOf "__init__" "GraphProblem.__init__" (defArgs si_GraphProblem) (defBody si_GraphProblem) (defScope si_GraphProblem) .none ck_GraphProblem cd1_GraphProblem cp_GraphProblem can_GraphProblem cc_GraphProblem ct_GraphProblem), csl_GraphProblem⟩)
    (ik_GraphProblem : PySem.W.codeIn K cc_GraphProblem "GraphProblem.__init__" = true)
    (ikp_GraphProblem : PySem.W.keepIn K (.ref ci_GraphProblem) = true)
    : ∃ (cs : List (Addr × Addr × Str)) (fd : FuncData), (∀ p ∈ cs, h.get? p.2.1 = some { cls := .none, data := .fields #[] } ∧ K.lookup p.2.1 = none ∧ PySem.W.CodeHd h p.1 p.2.1) ∧ (∀ (s : Shared) (v : Value), BindsTo s fd ⟨[v], []⟩ [("script", v)]) ∧ ∀ base : Heap, K.In base → base.Ns mainGlobals mg → (∀ p ∈ cs, LamX.TabB base mg p.1 p.2.1) → FnOk l.prog w K mg base (L2N.CX l.prog w) 14 fa fd ["script"] (@spM ⟨cs.map (·.2)⟩ K mg 1 Mi.m_law_35) := by
  have G : h.Ns mainGlobals mg := TP.g
  have e := hfa.symm.trans (PySem.W.mg_of X G a0)
  cases e
  refine ⟨[(c_law_graph, P_law_graph, ("_law_graph" : Str) ++ ".<locals>." ++ "<lambda>"), (c_make_graph, P_make_graph, ("make_graph" : Str) ++ ".<locals>." ++ "<lambda>")], PySem.W.fnOf "law" "law" (defArgs s_law) (defBody s_law) (defScope s_law) .none kV0 dc0 pm0 an0 cd0 ct0, fun p m => ?_, fun s v => .of_eq rfl, fun base b1 b2 b3 => ?_⟩
  · simp only [List.mem_cons, List.not_mem_nil, or_false] at m
    rcases m with rfl | rfl
    · exact tab_facts X TP nt hr_law_graph tb_law_graph
    · exact tab_facts X TP nt hr_make_graph tb_make_graph

  letI : Tbl := ⟨[(P_law_graph, ("_law_graph" : Str) ++ ".<locals>." ++ "<lambda>"), (P_make_graph, ("make_graph" : Str) ++ ".<locals>." ++ "<lambda>")]⟩
  have hTT : Tbl.T = [(P_law_graph, ("_law_graph" : Str) ++ ".<locals>." ++ "<lambda>"), (P_make_graph, ("make_graph" : Str) ++ ".<locals>." ++ "<lambda>")] := rfl
  have TB_law_graph : LamX.TabB base mg c_law_graph P_law_graph := b3 (c_law_graph, P_law_graph, ("_law_graph" : Str) ++ ".<locals>." ++ "<lambda>") (by simp)
  have m_law_graph : (P_law_graph, ("_law_graph" : Str) ++ ".<locals>." ++ "<lambda>") ∈ Tbl.T := by
    rw [hTT]
    simp
  have u_law_graph : ∀ p ∈ Tbl.T, p.1 = P_law_graph → p.2 = ("_law_graph" : Str) ++ ".<locals>." ++ "<lambda>" := by
    rw [hTT]
    intro p m hp
    simp only [List.mem_cons, List.not_mem_nil, or_false] at m
    rcases m with rfl | rfl
    · rfl
    · exact absurd hp (by first | exact ne_make_graph_law_graph | exact fun z => ne_law_graph_make_graph z.symm)

  have TB_make_graph : LamX.TabB base mg c_make_graph P_make_graph := b3 (c_make_graph, P_make_graph, ("make_graph" : Str) ++ ".<locals>." ++ "<lambda>") (by simp)
  have m_make_graph : (P_make_graph, ("make_graph" : Str) ++ ".<locals>." ++ "<lambda>") ∈ Tbl.T := by
    rw [hTT]
    simp
  have u_make_graph : ∀ p ∈ Tbl.T, p.1 = P_make_graph → p.2 = ("make_graph" : Str) ++ ".<locals>." ++ "<lambda>" := by
    rw [hTT]
    intro p m hp
    simp only [List.mem_cons, List.not_mem_nil, or_false] at m
    rcases m with rfl | rfl
    · exact absurd hp (by first | exact ne_law_graph_make_graph | exact fun z => ne_make_graph_law_graph z.symm)
    · rfl

  have T : Txt w K mg base := ⟨has_of X G a1 l1 c1 k1 fun _ _ _ _ _ _ us hl => match us, hl with | [_], _ => rfl, has_of X G a2 l2 c2 k2 fun _ _ _ _ _ _ us hl => match us, hl with | [_], _ => rfl, has_of X G a3 l3 c3 k3 fun _ _ _ _ _ _ us hl => match us, hl with | [_, _], _ => rfl, has_of X G a4 l4 c4 k4 fun _ _ _ _ _ _ us hl => match us, hl with | [_, _, _], _ => rfl, has_of X G a5 l5 c5 k5 fun _ _ _ _ _ _ us hl => match us, hl with | [_], _ => rfl, ⟨_, _, c_law_graph, P_law_graph, fun_mk l6 c6 k6, code_of_tab a6 l6 tb_law_graph, PySem.W.mg_of X G a6, (fun_mk (st := s_law_graph) l6 c6 k6).binds (fun _ _ _ _ _ _ us hl => match us, hl with | [_], _ => rfl), TB_law_graph, m_law_graph, u_law_graph⟩, has_of X G a7 l7 c7 k7 fun _ _ _ _ _ _ us hl => match us, hl with | [_, _], _ => rfl, has_of X G a8 l8 c8 k8 fun _ _ _ _ _ _ us hl => match us, hl with | [_, _], _ => rfl, has_of X G a9 l9 c9 k9 fun _ _ _ _ _ _ us hl => match us, hl with | [_], _ => rfl, has_of X G a10 l10 c10 k10 fun _ _ _ _ _ _ us hl => match us, hl with | [_, _], _ => rfl, has_of X G a11 l11 c11 k11 fun _ _ _ _ _ _ us hl => match us, hl with | [_, _], _ => rfl, has_of X G a12 l12 c12 k12 fun _ _ _ _ _ _ us hl => match us, hl with | [_, _, _], _ => rfl, has_of X G a13 l13 c13 k13 fun _ _ _ _ _ _ us hl => match us, hl with | [_, _, _], _ => rfl, has_of X G a14 l14 c14 k14 fun _ _ _ _ _ _ us hl => match us, hl with | [_, _], _ => rfl, has_of X G a15 l15 c15 k15 fun _ _ _ _ _ _ us hl => match us, hl with | [_], _ => rfl, has_of X G a16 l16 c16 k16 fun _ _ _ _ _ _ us hl => match us, hl with | [_, _, _], _ => rfl, has_of X G a17 l17 c17 k17 fun _ _ _ _ _ _ us hl => match us, hl with | [_], _ => rfl, ⟨_, _, c_make_graph, P_make_graph, fun_mk l18 c18 k18, code_of_tab a18 l18 tb_make_graph, PySem.W.mg_of X G a18, (fun_mk (st := s_make_graph) l18 c18 k18).binds (fun _ _ _ _ _ _ us hl => match us, hl with | [_], _ => rfl), TB_make_graph, m_make_graph, u_make_graph⟩, has_of X G a19 l19 c19 k19 fun _ _ _ _ _ _ us hl => match us, hl with | [_, _, _], _ => rfl, has_of X G a20 l20 c20 k20 fun _ _ _ _ _ _ us hl => match us, hl with | [_, _], _ => rfl, PySem.W.mg_none_of X G z_abs, PySem.W.mg_none_of X G z_any, PySem.W.mg_none_of X G z_bool, PySem.W.mg_none_of X G z_int, PySem.W.mg_none_of X G z_isinstance, PySem.W.mg_none_of X G z_len, PySem.W.mg_none_of X G z_list, PySem.W.mg_none_of X G z_min, PySem.W.mg_none_of X G z_range, PySem.W.mg_none_of X G z_sorted, PySem.W.mg_none_of X G z_str, PySem.W.mg_none_of X G z_tuple, PySem.W.mg_none_of X G z_zip, PySem.W.mg_of X G y_heappop, PySem.W.mg_of X G y_heappush, ⟨_, PySem.W.mg_of X G q_MOST_ACTIONS⟩, ⟨_, PySem.W.mg_of X G cn_GraphProblem, ⟨ic_GraphProblem, ga_GraphProblem, gt_GraphProblem, sb_GraphProblem, gc_GraphProblem, spc, tkc, mr_GraphProblem⟩⟩, ⟨_, PySem.W.mg_of X G cn_GraphProblem, (fun c m cv hcv => by
      simp only [List.mem_cons, List.not_mem_nil, or_false] at m
      rcases m with rfl
      · cases hcv.symm.trans (PySem.W.mg_of X G cn_GraphProblem)
        exact PySem.W.exm_ref sb_GraphProblem hd_GraphProblem ty_GraphProblem su_GraphProblem_GraphProblem
), (fun _ m => nomatch m)⟩, fun hC => by cases hC.symm.trans (PySem.W.mg_of X G cn_GraphProblem); exact ⟨_, PySem.W.mg_of X G cn_MillError, ko_GraphProblem_MillError⟩, fun hC => by cases hC.symm.trans (PySem.W.mg_of X G cn_GraphProblem); exact ⟨ga_GraphProblem, gt_GraphProblem, sb_GraphProblem, hd_GraphProblem⟩, fun hC => by cases hC.symm.trans (PySem.W.mg_of X G cn_GraphProblem); exact nf_GraphProblem_label, fun hC => by cases hC.symm.trans (PySem.W.mg_of X G cn_GraphProblem); exact nf_GraphProblem_reason, ⟨_, _, _, PySem.W.mg_of X G cn_GraphProblem, ⟨⟨_, _, _, _, _, _, _, _, _, _, _, _, _, _, _, xl_GraphProblem, xr_GraphProblem⟩, sa_GraphProblem, sb_GraphProblem, ty_GraphProblem, kp_GraphProblem⟩, in_GraphProblem, it_GraphProblem, fun_mk (st := si_GraphProblem) il_GraphProblem ik_GraphProblem ikp_GraphProblem, (fun_mk (st := si_GraphProblem) il_GraphProblem ik_GraphProblem ikp_GraphProblem).binds (fun _ _ _ _ _ _ us hl => match us, hl with | [_, _, _], _ => rfl), fun f m => by
      simp only [List.mem_cons, List.not_mem_nil, or_false] at m
      rcases m with rfl | rfl
      · exact nf_GraphProblem_label
      · exact nf_GraphProblem_reason
⟩⟩
  exact okfn_law T (fun_mk (st := s_law) l0 c0 k0)
end
end L27

theorem L27.main : ∀ ns : List Int, ns.length ≤ 63 → ∃ h, Mi.m_law_35 [Vi.D.klst (ns.map Vi.D.int)] [] = Vi.Rs.ok (Vi.D.bl true) h := Vi.k27_main
open PySem PySem.W PyProof.Rows in
set_option maxRecDepth 100000 in
set_option maxHeartbeats 0 in
theorem PySem.Challenge.cw_truemill_k27_make_graph_holds : PySem.Challenge.rw_truemill_k27_make_graph.Holds := by
  w_on; o_law; k_head; (case hw => w_witness2)
  k_fill
  refine Vi.law_walkT (l := PySem.Challenge.rw_truemill_k27_make_graph) (k := 14) (m := Mi.m_law_35) (x := "script") rfl rfl ⟨rfl, by decide, by decide⟩ (fun w h Y => PySem.W.km_in_of Y) ?ff ?mm
  case mm => exact L27.main
  case ff =>
    intro w mean mg mb fa h KX TP hmg
    refine' L27.end_ KX TP hmg ?nt ?a0 ?l0 ?c0 ?k0 ?a1 ?l1 ?c1 ?k1 ?a2 ?l2 ?c2 ?k2 ?a3 ?l3 ?c3 ?k3 ?a4 ?l4 ?c4 ?k4 ?a5 ?l5 ?c5 ?k5 ?a6 ?l6 ?c6 ?k6 ?a7 ?l7 ?c7 ?k7 ?a8 ?l8 ?c8 ?k8 ?a9 ?l9 ?c9 ?k9 ?a10 ?l10 ?c10 ?k10 ?a11 ?l11 ?c11 ?k11 ?a12 ?l12 ?c12 ?k12 ?a13 ?l13 ?c13 ?k13 ?a14 ?l14 ?c14 ?k14 ?a15 ?l15 ?c15 ?k15 ?a16 ?l16 ?c16 ?k16 ?a17 ?l17 ?c17 ?k17 ?a18 ?l18 ?c18 ?k18 ?a19 ?l19 ?c19 ?k19 ?a20 ?l20 ?c20 ?k20 ?z_abs ?z_any ?z_bool ?z_int ?z_isinstance ?z_len ?z_list ?z_min ?z_range ?z_sorted ?z_str ?z_tuple ?z_zip ?y_heappop ?y_heappush ?q_MOST_ACTIONS ?tb_law_graph ?hr_law_graph ?tb_make_graph ?hr_make_graph ?ne_law_graph_make_graph ?cn_GraphProblem ?ic_GraphProblem ?ga_GraphProblem ?gt_GraphProblem ?sb_GraphProblem ?gc_GraphProblem ?spc ?tkc ?mr_GraphProblem ?hd_GraphProblem ?ty_GraphProblem ?su_GraphProblem_GraphProblem ?cn_MillError ?ko_GraphProblem_MillError ?nf_GraphProblem_label ?nf_GraphProblem_reason ?xl_GraphProblem ?xr_GraphProblem ?sa_GraphProblem ?kp_GraphProblem ?in_GraphProblem ?it_GraphProblem ?il_GraphProblem ?ik_GraphProblem ?ikp_GraphProblem
    (case nt => first | k_is | rfl | kernel_rfl | decide +kernel)
    (case a0 => k_is)
    (case l0 => k_is)
    (case c0 => k_is)
    (case k0 => k_is)
    (case a1 => k_is)
    (case l1 => k_is)
    (case c1 => k_is)
    (case k1 => k_is)
    (case a2 => k_is)
    (case l2 => k_is)
    (case c2 => k_is)
    (case k2 => k_is)
    (case a3 => k_is)
    (case l3 => k_is)
    (case c3 => k_is)
    (case k3 => k_is)
    (case a4 => k_is)
    (case l4 => k_is)
    (case c4 => k_is)
    (case k4 => k_is)
    (case a5 => k_is)
    (case l5 => k_is)
    (case c5 => k_is)
    (case k5 => k_is)
    (case a6 => k_is)
    (case l6 => k_is)
    (case c6 => k_is)
    (case k6 => k_is)
    (case a7 => k_is)
    (case l7 => k_is)
    (case c7 => k_is)
    (case k7 => k_is)
    (case a8 => k_is)
    (case l8 => k_is)
    (case c8 => k_is)
    (case k8 => k_is)
    (case a9 => k_is)
    (case l9 => k_is)
    (case c9 => k_is)
    (case k9 => k_is)
    (case a10 => k_is)
    (case l10 => k_is)
    (case c10 => k_is)
    (case k10 => k_is)
    (case a11 => k_is)
    (case l11 => k_is)
    (case c11 => k_is)
    (case k11 => k_is)
    (case a12 => k_is)
    (case l12 => k_is)
    (case c12 => k_is)
    (case k12 => k_is)
    (case a13 => k_is)
    (case l13 => k_is)
    (case c13 => k_is)
    (case k13 => k_is)
    (case a14 => k_is)
    (case l14 => k_is)
    (case c14 => k_is)
    (case k14 => k_is)
    (case a15 => k_is)
    (case l15 => k_is)
    (case c15 => k_is)
    (case k15 => k_is)
    (case a16 => k_is)
    (case l16 => k_is)
    (case c16 => k_is)
    (case k16 => k_is)
    (case a17 => k_is)
    (case l17 => k_is)
    (case c17 => k_is)
    (case k17 => k_is)
    (case a18 => k_is)
    (case l18 => k_is)
    (case c18 => k_is)
    (case k18 => k_is)
    (case a19 => k_is)
    (case l19 => k_is)
    (case c19 => k_is)
    (case k19 => k_is)
    (case a20 => k_is)
    (case l20 => k_is)
    (case c20 => k_is)
    (case k20 => k_is)
    (case z_abs => k_is)
    (case z_any => k_is)
    (case z_bool => k_is)
    (case z_int => k_is)
    (case z_isinstance => k_is)
    (case z_len => k_is)
    (case z_list => k_is)
    (case z_min => k_is)
    (case z_range => k_is)
    (case z_sorted => k_is)
    (case z_str => k_is)
    (case z_tuple => k_is)
    (case z_zip => k_is)
    (case y_heappop => k_is)
    (case y_heappush => k_is)
    (case q_MOST_ACTIONS => k_is)
    (case tb_law_graph => first | k_is | rfl | kernel_rfl | decide +kernel)
    (case hr_law_graph => first | k_is | rfl | kernel_rfl | decide +kernel)
    (case tb_make_graph => first | k_is | rfl | kernel_rfl | decide +kernel)
    (case hr_make_graph => first | k_is | rfl | kernel_rfl | decide +kernel)
    (case ne_law_graph_make_graph => decide)
    (case cn_GraphProblem => k_is)
    (case ic_GraphProblem => first | k_is | rfl | kernel_rfl | decide +kernel)
    (case ga_GraphProblem => first | k_is | rfl | kernel_rfl | decide +kernel)
    (case gt_GraphProblem => first | k_is | rfl | kernel_rfl | decide +kernel)
    (case sb_GraphProblem => first | k_is | rfl | kernel_rfl | decide +kernel)
    (case gc_GraphProblem => first | k_is | rfl | kernel_rfl | decide +kernel)
    (case spc => first | k_is | rfl | kernel_rfl | decide +kernel)
    (case tkc => first | k_is | rfl | kernel_rfl | decide +kernel)
    (case mr_GraphProblem => first | k_is | rfl | kernel_rfl | decide +kernel)
    (case hd_GraphProblem => first | k_is | rfl | kernel_rfl | decide +kernel)
    (case ty_GraphProblem => first | k_is | rfl | kernel_rfl | decide +kernel)
    (case su_GraphProblem_GraphProblem => first | k_is | rfl | kernel_rfl | decide +kernel)
    (case cn_MillError => k_is)
    (case ko_GraphProblem_MillError => first | k_is | rfl | kernel_rfl | decide +kernel)
    (case nf_GraphProblem_label => first | k_is | rfl | kernel_rfl | decide +kernel)
    (case nf_GraphProblem_reason => first | k_is | rfl | kernel_rfl | decide +kernel)
    (case xl_GraphProblem => k_is)
    (case xr_GraphProblem => first | rfl | decide +kernel | kernel_rfl)
    (case sa_GraphProblem => first | k_is | rfl | kernel_rfl | decide +kernel)
    (case kp_GraphProblem => first | k_is | rfl | kernel_rfl | decide +kernel)
    (case in_GraphProblem => k_is)
    (case it_GraphProblem => k_is)
    (case il_GraphProblem => k_is)
    (case ik_GraphProblem => k_is)
    (case ikp_GraphProblem => first | k_is | rfl | kernel_rfl | decide +kernel)
