import PyProof.Rows.All
import Wide.All
import OpenK.AllK
import Wide.FinOn
import PyProof.EqAt
import PyProof.EqKinds
import PyProof.TupleCall
import HandS.Base
import HandS.Call
import HandS.List
import HandS.Comp
import HandS.Ends
import HandS.Text
import HandS.Iter
import HandS.Exc
import HandS.Words
import HandS.WordsExc
import HandS.Defaults
import HandS.Wide
import HandS.IsInst
import HandS.Walk
import HandS.Evl
import HandS.Steps
import HandS.ExcInit
import HandS.ExcOwn
import KE.KExcIs
import HandS.HeadHook4
import HandS.Head2
import HandS.HeadEnd
import HandS.HeadWalk
import HandS.ExcValue
import PySem.Challenge.RW_probewright_k00_errors_and_words
import KE.KStateDown
import Lean
set_option Elab.async false
set_option linter.all false
set_option maxRecDepth 100000
set_option maxHeartbeats 2000000
namespace Pw
open PySem PySem.Spec PyProof.Rows L2 Evl

/-! ### data: what a value stands for, whatever the addresses -/
inductive Dt where
  | non | bl (b : Bool) | int (i : Int) | str (x : Str)
  | tup (ds : List Dt) | lst (ds : List Dt)
  | dic (ks : List Key) (ds : List Dt) | dit (ks : List (List Key)) (ds : List Dt)
  | obj (C : Addr) (fs : List Str) (ds : List Dt)
  | exc (C : Addr) (fs : List Str) (ds : List Dt)
  | ty (n : String) | adr (a : Addr)

mutual
def Rp (K : PySem.W.Frag) (H : Hp) : Dt → V → Prop
  | .non, v => v = .non
  | .bl b, v => v = .bl b
  | .int i, v => v = .int i
  | .str x, v => v = .str x
  | .tup ds, v => ∃ a vs, v = .ref a ∧ SqT K H a vs ∧ RpL K H ds vs
  | .lst ds, v => ∃ a vs, v = .ref a ∧ SqL K H a vs ∧ RpL K H ds vs
  | .dic ks ds, v => ∃ a vs, v = .ref a ∧ H a = some (.dK (ks.zip vs)) ∧ ks.length = vs.length ∧ RpL K H ds vs
  | .dit ks ds, v => ∃ a vs, v = .ref a ∧ H a = some (.dT (ks.zip vs)) ∧ ks.length = vs.length ∧ RpL K H ds vs
  | .obj C fs ds, v => ∃ a dx vs, v = .ref a ∧ H a = some (.ins C dx (fs.zip vs)) ∧ fs.length = vs.length ∧ RpL K H ds vs
  | .exc C fs ds, v => ∃ a vs, v = .ref a ∧ fs.length = vs.length ∧ RpL K H ds vs ∧ ((fs = [] ∧ H a = some (exo a C none)) ∨ ∃ dx, H a = some (exo a C (some dx)) ∧ H dx = some (exd dx (fs.zip vs)))
  | .ty n, v => v = .ty n
  | .adr a, v => v = .ref a
def RpL (K : PySem.W.Frag) (H : Hp) : List Dt → List V → Prop
  | [], vs => vs = []
  | d :: ds, vs => ∃ v r, vs = v :: r ∧ Rp K H d v ∧ RpL K H ds r
end

section
variable {K : PySem.W.Frag} {F H F' H' : Hp}
mutual
theorem Rp.mono (e : Ex H H') : ∀ {d : Dt} {v : V}, Rp K H d v → Rp K H' d v
  | .non, _, h => h
  | .bl _, _, h => h
  | .int _, _, h => h
  | .str _, _, h => h
  | .tup ds, v, h => by
    obtain ⟨a, vs, e1, h1, h2⟩ := h
    exact ⟨a, vs, e1, ex_t e h1, RpL.mono e h2⟩
  | .lst ds, v, h => by
    obtain ⟨a, vs, e1, h1, h2⟩ := h
    exact ⟨a, vs, e1, ex_l e h1, RpL.mono e h2⟩
  | .dic ks ds, v, h => by
    obtain ⟨a, vs, e1, h1, h3, h2⟩ := h
    exact ⟨a, vs, e1, e _ _ h1, h3, RpL.mono e h2⟩
  | .dit ks ds, v, h => by
    obtain ⟨a, vs, e1, h1, h3, h2⟩ := h
    exact ⟨a, vs, e1, e _ _ h1, h3, RpL.mono e h2⟩
  | .obj C fs ds, v, h => by
    obtain ⟨a, dx, vs, e1, h1, h3, h2⟩ := h
    exact ⟨a, dx, vs, e1, e _ _ h1, h3, RpL.mono e h2⟩
  | .exc C fs ds, v, h => by
    obtain ⟨a, vs, e1, h3, h2, h1⟩ := h
    refine ⟨a, vs, e1, h3, RpL.mono e h2, ?_⟩
    rcases h1 with ⟨z, h1⟩ | ⟨dx, h1, h4⟩
    · exact .inl ⟨z, e _ _ h1⟩
    · exact .inr ⟨dx, e _ _ h1, e _ _ h4⟩
  | .ty _, _, h => h
  | .adr _, _, h => h
theorem RpL.mono (e : Ex H H') : ∀ {ds : List Dt} {vs : List V}, RpL K H ds vs → RpL K H' ds vs
  | [], _, h => h
  | d :: ds, vs, h => by
    obtain ⟨v, r, e1, h1, h2⟩ := h
    exact ⟨v, r, e1, Rp.mono e h1, RpL.mono e h2⟩
end
theorem RpL.nil : RpL K H [] [] := rfl
theorem RpL.cons {d : Dt} {ds : List Dt} {v : V} {vs : List V} (h : Rp K H d v) (t : RpL K H ds vs) : RpL K H (d :: ds) (v :: vs) := ⟨v, vs, rfl, h, t⟩
theorem RpL.length : ∀ {ds : List Dt} {vs : List V}, RpL K H ds vs → ds.length = vs.length
  | [], vs, h => by
    cases (show vs = [] from h)
    rfl
  | d :: ds, vs, h => by
    obtain ⟨v, r, rfl, _, t⟩ := h
    simp [RpL.length t]
theorem RpL.get : ∀ {ds : List Dt} {vs : List V} {i : Nat} {d : Dt}, RpL K H ds vs → ds[i]? = some d → ∃ v, vs[i]? = some v ∧ Rp K H d v
  | [], _, _, _, _, e => by simp at e
  | d :: ds, vs, 0, d', h, e => by
    obtain ⟨v, r, rfl, q, t⟩ := h
    simp at e
    subst e
    exact ⟨v, by simp, q⟩
  | d :: ds, vs, i + 1, d', h, e => by
    obtain ⟨v, r, rfl, q, t⟩ := h
    obtain ⟨w, h1, h2⟩ := RpL.get (i := i) t (by simpa using e)
    exact ⟨w, by simpa using h1, h2⟩
theorem RpL.getV : ∀ {ds : List Dt} {vs : List V} {i : Nat} {v : V}, RpL K H ds vs → vs[i]? = some v → ∃ d, ds[i]? = some d ∧ Rp K H d v
  | [], vs, _, _, h, e => by
    cases (show vs = [] from h)
    simp at e
  | d :: ds, vs, 0, w, h, e => by
    obtain ⟨v, r, rfl, q, t⟩ := h
    simp at e
    subst e
    exact ⟨d, by simp, q⟩
  | d :: ds, vs, i + 1, w, h, e => by
    obtain ⟨v, r, rfl, q, t⟩ := h
    obtain ⟨w, h1, h2⟩ := RpL.getV (i := i) t (by simpa using e)
    exact ⟨w, by simpa using h1, h2⟩
theorem RpL.append : ∀ {ds es : List Dt} {vs us : List V}, RpL K H ds vs → RpL K H es us → RpL K H (ds ++ es) (vs ++ us)
  | [], _, vs, _, h, t => by
    cases (show vs = [] from h)
    exact t
  | d :: ds, es, vs, us, h, t => by
    obtain ⟨v, r, rfl, q, s⟩ := h
    exact ⟨v, r ++ us, rfl, q, RpL.append s t⟩
theorem RpL.set : ∀ {ds : List Dt} {vs : List V} {d : Dt} {v : V} (i : Nat), RpL K H ds vs → Rp K H d v → RpL K H (ds.set i d) (vs.set i v)
  | [], vs, _, _, _, h, q => by
    cases (show vs = [] from h)
    exact rfl
  | d :: ds, vs, d', v', 0, h, q => by
    obtain ⟨v, r, rfl, _, s⟩ := h
    exact ⟨v', r, rfl, q, s⟩
  | d :: ds, vs, d', v', i + 1, h, q => by
    obtain ⟨v, r, rfl, q', s⟩ := h
    exact ⟨v, r.set i v', rfl, q', RpL.set i s q⟩
theorem RpL.take : ∀ {ds : List Dt} {vs : List V} (i : Nat), RpL K H ds vs → RpL K H (ds.take i) (vs.take i)
  | [], vs, i, h => by
    cases (show vs = [] from h)
    simp [RpL]
  | d :: ds, vs, 0, h => by simp [RpL]
  | d :: ds, vs, i + 1, h => by
    obtain ⟨v, r, rfl, q', s⟩ := h
    exact ⟨v, r.take i, rfl, q', RpL.take i s⟩
theorem RpL.drop : ∀ {ds : List Dt} {vs : List V} (i : Nat), RpL K H ds vs → RpL K H (ds.drop i) (vs.drop i)
  | [], vs, i, h => by
    cases (show vs = [] from h)
    simp [RpL]
  | d :: ds, vs, 0, h => by simpa using h
  | d :: ds, vs, i + 1, h => by
    obtain ⟨v, r, rfl, q', s⟩ := h
    simpa using RpL.drop i s
theorem RpL.of : ∀ {ds : List Dt} {vs : List V}, ds.length = vs.length → (∀ (i : Nat) (d : Dt) (v : V), ds[i]? = some d → vs[i]? = some v → Rp K H d v) → RpL K H ds vs
  | [], vs, e, _ => List.length_eq_zero_iff.mp e.symm
  | d :: ds, [], e, _ => by simp at e
  | d :: ds, v :: vs, e, h => ⟨v, vs, rfl, h 0 d v rfl rfl, RpL.of (by simpa using e) fun i d' v' h1 h2 => h (i + 1) d' v' (by simpa using h1) (by simpa using h2)⟩
/-- ints alone -/
theorem RpL.ints : ∀ {ns : List Int} {vs : List V}, RpL K H (ns.map Dt.int) vs → vs = ns.map V.int
  | [], _, h => h
  | n :: ns, vs, h => by
    obtain ⟨v, r, rfl, q, s⟩ := h
    rw [show v = V.int n from q, RpL.ints s]
    rfl
theorem RpL.ofInts : ∀ {ns : List Int}, RpL K H (ns.map Dt.int) (ns.map V.int)
  | [] => rfl
  | n :: ns => ⟨V.int n, ns.map V.int, rfl, rfl, RpL.ofInts⟩
theorem RpL.bls : ∀ {ns : List Bool} {vs : List V}, RpL K H (ns.map Dt.bl) vs → vs = ns.map V.bl
  | [], _, h => h
  | n :: ns, vs, h => by
    obtain ⟨v, r, rfl, q, s⟩ := h
    rw [show v = V.bl n from q, RpL.bls s]
    rfl
end

/-! ### two heaps: F, what is data; H, all (the own lists too). How both grow -/
structure Wk (F H F' H' : Hp) : Prop where
  f : Ex F F'
  h : Ex H H'
  s : Ex F' H'
  n : ∀ a o, H a = some o → F a = none → F' a = none
section
variable {K : PySem.W.Frag} {F H F1 H1 F2 H2 : Hp}
theorem Wk.refl (e : Ex F H) : Wk F H F H := ⟨Ex.refl F, Ex.refl H, e, fun _ _ _ h => h⟩
theorem Wk.trans (a : Wk F H F1 H1) (b : Wk F1 H1 F2 H2) : Wk F H F2 H2 :=
  ⟨a.f.trans b.f, a.h.trans b.h, b.s, fun x o h1 h2 => b.n x o (a.h x o h1) (a.n x o h1 h2)⟩
theorem none_sub (e : Ex F H) {p : Addr} (h : H p = none) : F p = none := fresh_back e h
/-- a new object that is data -/
theorem Wk.new (e : Ex F H) {p : Addr} (o : HO) (h : H p = none) : Wk F H (upd F p o) (upd H p o) :=
  ⟨Ex.new (none_sub e h), Ex.new h, fun a u q => by
    by_cases z : a = p
    · subst z
      rw [upd_same] at q ⊢
      exact q
    · rw [upd_ne z] at q ⊢
      exact e a u q, fun a u q n => by
    have z : a ≠ p := ne_of_none q h
    rw [upd_ne z]
    exact n⟩
/-- a new object of one's own -/
theorem Wk.own (e : Ex F H) {p : Addr} (o : HO) (h : H p = none) : Wk F H F (upd H p o) :=
  ⟨Ex.refl F, Ex.new h, e.trans (Ex.new h), fun _ _ _ n => n⟩
/-- .. becomes data -/
theorem Wk.give {p : Addr} {o : HO} (e : Ex F H) (w : Wk F H F1 H1) (h0 : H p = none) (h : H1 p = some o) : Wk F H (upd F1 p o) H1 :=
  ⟨fun a u q => by
    have z : a ≠ p := ne_of_none q (none_sub e h0)
    rw [upd_ne z]
    exact w.f a u q, w.h, fun a u q => by
    by_cases z : a = p
    · subst z
      rw [upd_same] at q
      rw [h, ← q]
    · rw [upd_ne z] at q
      exact w.s a u q, fun a u q n => by
    have z : a ≠ p := ne_of_none q h0
    rw [upd_ne z]
    exact w.n a u q n⟩
end

/-! ### slots -/
inductive Sl where
  | x | u | d (d : Dt) | ol (ds : List Dt)
def SlOk (K : PySem.W.Frag) (F H0 H : Hp) (v : Option V) : Sl → Prop
  | .x => True
  | .u => v = none
  | .d d => ∃ w, v = some w ∧ Rp K F d w
  | .ol ds => ∃ p vs, v = some (.ref p) ∧ F p = none ∧ H0 p = none ∧ H p = some (.lst vs) ∧ RpL K F ds vs
abbrev En := List Sl
/-- the state: F0, H0 at the def's entry, F, H now -/
structure Sm (K : PySem.W.Frag) (F0 H0 F H : Hp) (σ : L2.St) (env : En) : Prop where
  e0 : Ex F0 H0
  g : Wk F0 H0 F H
  len : σ.length = env.length
  sl : ∀ (i : Nat) (s : Sl), env[i]? = some s → ∃ v, σ[i]? = some v ∧ SlOk K F H0 H v s
  df : ∀ (i j : Nat) (ds es : List Dt) (p : Addr), i ≠ j → env[i]? = some (.ol ds) → env[j]? = some (.ol es) → σ[i]? = some (some (.ref p)) → σ[j]? ≠ some (some (.ref p))
section
variable {K : PySem.W.Frag} {F0 H0 F H F' H' : Hp} {σ : L2.St} {env env' : En}
theorem SlOk.wk {v : Option V} {s : Sl} (w : Wk F H F' H') (h : SlOk K F H0 H v s) : SlOk K F' H0 H' v s := by
  cases s with
  | x => trivial
  | u => exact h
  | d d =>
    obtain ⟨u, e, r⟩ := h
    exact ⟨u, e, r.mono w.f⟩
  | ol ds =>
    obtain ⟨p, vs, e, h1, h2, h3, h4⟩ := h
    exact ⟨p, vs, e, w.n p _ h3 h1, h2, w.h p _ h3, h4.mono w.f⟩
theorem Sm.wk (S : Sm K F0 H0 F H σ env) (w : Wk F H F' H') : Sm K F0 H0 F' H' σ env :=
  ⟨S.e0, S.g.trans w, S.len, fun i s e => by
    obtain ⟨v, h1, h2⟩ := S.sl i s e
    exact ⟨v, h1, h2.wk w⟩, S.df⟩
theorem Sm.sub (S : Sm K F0 H0 F H σ env) : Ex F H := S.g.s
/-- an object that is nobody's slot is made or changed -/
theorem Sm.upd (S : Sm K F0 H0 F H σ env) {p : Addr} (o : HO) (hF : F p = none) (h0 : H0 p = none) (hp : ∀ (i : Nat) (ds : List Dt), env[i]? = some (.ol ds) → σ[i]? ≠ some (some (.ref p))) : Sm K F0 H0 F (L2.upd H p o) σ env :=
  ⟨S.e0, ⟨S.g.f, fun a u q => by
    rw [upd_ne (ne_of_none q h0)]
    exact S.g.h a u q, fun a u q => by
    rw [upd_ne (ne_of_none q hF)]
    exact S.g.s a u q, S.g.n⟩, S.len, fun i s e => by
    obtain ⟨v, h1, h2⟩ := S.sl i s e
    refine ⟨v, h1, ?_⟩
    cases s with
    | x => trivial
    | u => exact h2
    | d d => exact h2
    | ol ds =>
      obtain ⟨q, vs, ev, g1, g2, g3, g4⟩ := h2
      have ne : q ≠ p := fun z => hp i ds e (by rw [h1, ev, z])
      exact ⟨q, vs, ev, g1, g2, by rw [upd_ne ne]; exact g3, g4⟩, S.df⟩
theorem get_set {α : Type} {l : List α} {i j : Nat} {a b : α} (h : (l.set i a)[j]? = some b) : (i = j ∧ b = a ∧ i < l.length) ∨ (i ≠ j ∧ l[j]? = some b) := by
  rw [List.getElem?_set] at h
  by_cases e : i = j
  · rw [if_pos e] at h
    by_cases l : i < l.length
    · rw [if_pos l] at h
      exact .inl ⟨e, (Option.some.inj h).symm, l⟩
    · rw [if_neg l] at h
      cases h
  · rw [if_neg e] at h
    exact .inr ⟨e, h⟩
theorem set_same {α : Type} {l : List α} {i : Nat} {a : α} (h : i < l.length) : (l.set i a)[i]? = some a := by simp [h]
theorem set_ne {α : Type} {l : List α} {i j : Nat} {a : α} (h : i ≠ j) : (l.set i a)[j]? = l[j]? := by simp [h]
/-- slot i gets data -/
theorem Sm.setD (S : Sm K F0 H0 F H σ env) {i : Nat} {d : Dt} {v : V} (r : Rp K F d v) : Sm K F0 H0 F H (σ.set i (some v)) (env.set i (.d d)) :=
  ⟨S.e0, S.g, by simp [S.len], fun j s e => by
    rcases get_set e with ⟨rfl, rfl, l⟩ | ⟨ne, e⟩
    · exact ⟨some v, set_same (by rw [S.len]; exact l), v, rfl, r⟩
    · rw [set_ne ne]
      exact S.sl j s e, fun a b ds es p ne e1 e2 h => by
    rcases get_set e1 with ⟨_, z, _⟩ | ⟨n1, e1⟩
    · cases z
    · rcases get_set e2 with ⟨_, z, _⟩ | ⟨n2, e2⟩
      · cases z
      · rw [set_ne n1] at h
        rw [set_ne n2]
        exact S.df a b ds es p ne e1 e2 h⟩
/-- slot i gets a new list of its own -/
theorem Sm.setL (S : Sm K F0 H0 F H σ env) {i : Nat} {ds : List Dt} {p : Addr} {vs : List V} (hF : F p = none) (h0 : H0 p = none) (hp : H p = some (.lst vs)) (r : RpL K F ds vs) (hn : ∀ (j : Nat) (es : List Dt), env[j]? = some (.ol es) → σ[j]? ≠ some (some (.ref p))) :
    Sm K F0 H0 F H (σ.set i (some (.ref p))) (env.set i (.ol ds)) :=
  ⟨S.e0, S.g, by simp [S.len], fun j s e => by
    rcases get_set e with ⟨rfl, rfl, l⟩ | ⟨ne, e⟩
    · exact ⟨some (.ref p), set_same (by rw [S.len]; exact l), p, vs, rfl, hF, h0, hp, r⟩
    · rw [set_ne ne]
      exact S.sl j s e, fun a b ds es q ne e1 e2 h => by
    rcases get_set e1 with ⟨ra, z1, _⟩ | ⟨n1, e1⟩
    · rcases get_set e2 with ⟨rb, z2, _⟩ | ⟨n2, e2⟩
      · exact absurd (ra.symm.trans rb) ne
      · subst ra
        rw [set_ne n2]
        have l : i < σ.length := by
          rw [S.len]
          exact (by assumption)
        rw [set_same l] at h
        cases h
        exact hn b es e2
    · rcases get_set e2 with ⟨rb, z2, l⟩ | ⟨n2, e2⟩
      · subst rb
        rw [set_ne n1] at h
        intro q2
        rw [set_same (by rw [S.len]; exact l)] at q2
        cases q2
        exact hn a ds e1 h
      · rw [set_ne n1] at h
        rw [set_ne n2]
        exact S.df a b ds es q ne e1 e2 h⟩
/-- the own list in slot i becomes data -/
theorem Sm.freeze (S : Sm K F0 H0 F H σ env) {i : Nat} {ds : List Dt} (h : env[i]? = some (.ol ds)) :
    ∃ p vs, σ[i]? = some (some (.ref p)) ∧ F p = none ∧ H p = some (.lst vs) ∧ RpL K F ds vs ∧ Sm K F0 H0 (L2.upd F p (.lst vs)) H σ (env.set i (.d (.lst ds))) := by
  obtain ⟨v, h1, p, vs, rfl, g1, g2, g3, g4⟩ := S.sl i _ h
  have ex : Ex F (L2.upd F p (.lst vs)) := Ex.new g1
  refine ⟨p, vs, h1, g1, g3, g4, S.e0, S.g.give S.e0 g2 g3, by simp [S.len], fun j s e => ?_, fun a b ds es q ne e1 e2 h => ?_⟩
  · rcases get_set e with ⟨rfl, rfl, l⟩ | ⟨ne, e⟩
    · exact ⟨_, h1, .ref p, rfl, p, vs, rfl, SqL.of upd_same, g4.mono ex⟩
    · obtain ⟨w, k1, k2⟩ := S.sl j s e
      refine ⟨w, k1, ?_⟩
      cases s with
      | x => trivial
      | u => exact k2
      | d d =>
        obtain ⟨u, e, r⟩ := k2
        exact ⟨u, e, r.mono ex⟩
      | ol es =>
        obtain ⟨q, us, eq, f1, f2, f3, f4⟩ := k2
        have nq : q ≠ p := fun z => S.df i j ds es p ne h e h1 (by rw [k1, eq, z])
        exact ⟨q, us, eq, by rw [upd_ne nq]; exact f1, f2, f3, f4.mono ex⟩
  · rcases get_set e1 with ⟨_, z, _⟩ | ⟨n1, e1⟩
    · cases z
    · rcases get_set e2 with ⟨_, z, _⟩ | ⟨n2, e2⟩
      · cases z
      · exact S.df a b ds es q ne e1 e2 h
/-- forgetting -/
def Le (a b : En) : Prop := a.length = b.length ∧ ∀ (i : Nat) (s : Sl), b[i]? = some s → s = .x ∨ a[i]? = some s
theorem Le.refl (a : En) : Le a a := ⟨rfl, fun _ _ h => .inr h⟩
theorem Le.nil : Le [] [] := Le.refl _
theorem Le.x {a b : En} {s : Sl} (h : Le a b) : Le (s :: a) (.x :: b) := ⟨by simp [h.1], fun i t e => by
  cases i with
  | zero => exact .inl (by simpa using e.symm)
  | succ i => exact h.2 i t (by simpa using e)⟩
theorem Le.s {a b : En} {s : Sl} (h : Le a b) : Le (s :: a) (s :: b) := ⟨by simp [h.1], fun i t e => by
  cases i with
  | zero => exact .inr (by simpa using e)
  | succ i => exact h.2 i t (by simpa using e)⟩
theorem Sm.le (S : Sm K F0 H0 F H σ env) (l : Le env env') : Sm K F0 H0 F H σ env' :=
  ⟨S.e0, S.g, S.len.trans l.1, fun i s e => by
    rcases l.2 i s e with rfl | z
    · have hi : i < σ.length := by
        rw [S.len, l.1]
        exact (List.getElem?_eq_some_iff.mp e).1
      exact ⟨σ[i], by simp [hi], trivial⟩
    · exact S.sl i s z, fun a b ds es p ne e1 e2 h => by
    rcases l.2 a _ e1 with z | e1
    · cases z
    · rcases l.2 b _ e2 with z | e2
      · cases z
      · exact S.df a b ds es p ne e1 e2 h⟩
end
end Pw

set_option maxHeartbeats 2000000
namespace Pw
open PySem PySem.Spec PyProof.Rows L2 Evl

/-! ### judgements -/
variable (K : PySem.W.Frag)
/-- what is done with a value d -/
abbrev Kq (F H : Hp) (d : Dt) (Q : VK) : Prop := ∀ v F' H', Wk F H F' H' → Rp K F' d v → Q v H'
abbrev KqL (F H : Hp) (ds : List Dt) (Q : List V → Hp → Prop) : Prop := ∀ vs F' H', Wk F H F' H' → RpL K F' ds vs → Q vs H'
def Ee (te : TE) (env : En) (d : Dt) : Prop := ∀ F0 H0 F H σ, Sm K F0 H0 F H σ env → ∀ Q : VK, Kq K F H d Q → te σ H Q
def Te (tt : TT) (env : En) (b : Bool) : Prop := ∀ F0 H0 F H σ, Sm K F0 H0 F H σ env → ∀ Q : Bool → Hp → Prop, (∀ F' H', Wk F H F' H' → Q b H') → tt σ H Q
def EeA (ta : TA) (env : En) (ds : List Dt) : Prop := ∀ F0 H0 F H σ, Sm K F0 H0 F H σ env → ∀ Q : List V → Hp → Prop, KqL K F H ds Q → ta σ H Q
/-- a new list of one's own -/
def EnL (te : TE) (env : En) (ds : List Dt) : Prop := ∀ F0 H0 F H σ, Sm K F0 H0 F H σ env → ∀ Q : VK, (∀ p vs F' H', Wk F H F' H' → H p = none → F' p = none → H' p = some (.lst vs) → RpL K F' ds vs → Q (.ref p) H') → te σ H Q
def Oo (to : TO) (env : En) (o : Option Int) : Prop := ∀ F0 H0 F H σ, Sm K F0 H0 F H σ env → ∀ Q : Option Int → Hp → Prop, (∀ F' H', Wk F H F' H' → Q o H') → to σ H Q
/-- operations on values -/
def R2d (r : R2) (d e z : Dt) : Prop := ∀ F H x y, Ex F H → Rp K F d x → Rp K F e y → ∀ Q : VK, Kq K F H z Q → r x y H Q
def R1d (r : V → Hp → VK → Prop) (d z : Dt) : Prop := ∀ F H x, Ex F H → Rp K F d x → ∀ Q : VK, Kq K F H z Q → r x H Q
def RLd (r : List V → Hp → VK → Prop) (ds : List Dt) (z : Dt) : Prop := ∀ F H vs, Ex F H → RpL K F ds vs → ∀ Q : VK, Kq K F H z Q → r vs H Q
def RLn (r : List V → Hp → VK → Prop) (ds es : List Dt) : Prop := ∀ F H vs, Ex F H → RpL K F ds vs → ∀ Q : VK, (∀ p us F' H', Wk F H F' H' → H p = none → F' p = none → H' p = some (.lst us) → RpL K F' es us → Q (.ref p) H') → r vs H Q
variable {K}
section
variable {env : En} {ta tb te tc : TE} {t u : TT} {d e z : Dt} {r r' : R2}
theorem ee_var {i : Nat} (h : env[i]? = some (.d d) := by rfl) : Ee K (tVar i) env d := fun F0 H0 F H σ S Q q => by
  obtain ⟨v, h1, w, rfl, r⟩ := S.sl i _ h
  exact ⟨w, h1, q w F H (Wk.refl S.sub) r⟩
theorem ee_c {v : V} (h : ∀ F, Rp K F d v) : Ee K (tC v) env d := fun F0 H0 F H σ S Q q => q v F H (Wk.refl S.sub) (h F)
theorem ee_int {i : Int} : Ee K (tC (.int i)) env (.int i) := ee_c fun _ => rfl
theorem ee_bl {b : Bool} : Ee K (tC (.bl b)) env (.bl b) := ee_c fun _ => rfl
theorem ee_str {x : Str} : Ee K (tC (.str x)) env (.str x) := ee_c fun _ => rfl
theorem ee_non : Ee K (tC .non) env .non := ee_c fun _ => rfl
theorem ee_ty {n : String} : Ee K (tC (.ty n)) env (.ty n) := ee_c fun _ => rfl
theorem ee_adr {a : Addr} : Ee K (tC (.ref a)) env (.adr a) := ee_c fun _ => rfl
theorem ee_is (h : Ee K te env d) (e' : d = e) : Ee K te env e := by
  rw [← e']
  exact h
theorem te_is {b c : Bool} (h : Te K t env b) (e' : b = c) : Te K t env c := by
  rw [← e']
  exact h
theorem ee_op (ha : Ee K ta env d) (hb : Ee K tb env e) (hr : R2d K r d e z) : Ee K (tOp r ta tb) env z := fun F0 H0 F H σ S Q q =>
  ha F0 H0 F H σ S _ fun x F1 H1 w1 r1 => hb F0 H0 F1 H1 σ (S.wk w1) _ fun y F2 H2 w2 r2 => hr F2 H2 x y w2.s (r1.mono w2.f) r2 Q fun v F3 H3 w3 r3 => q v F3 H3 ((w1.trans w2).trans w3) r3
theorem ee_un {r : V → Hp → VK → Prop} (ha : Ee K ta env d) (hr : R1d K r d z) : Ee K (tUn r ta) env z := fun F0 H0 F H σ S Q q =>
  ha F0 H0 F H σ S _ fun x F1 H1 w1 r1 => hr F1 H1 x w1.s r1 Q fun v F3 H3 w3 r3 => q v F3 H3 (w1.trans w3) r3
theorem ea_nil : EeA K tNil env [] := fun F0 H0 F H σ S Q q => q [] F H (Wk.refl S.sub) rfl
theorem ea_cons {tr : TA} {ds : List Dt} (h : Ee K te env d) (hr : EeA K tr env ds) : EeA K (tCons te tr) env (d :: ds) := fun F0 H0 F H σ S Q q =>
  h F0 H0 F H σ S _ fun x F1 H1 w1 r1 => hr F0 H0 F1 H1 σ (S.wk w1) _ fun vs F2 H2 w2 r2 => q (x :: vs) F2 H2 (w1.trans w2) ⟨x, vs, rfl, r1.mono w2.f, r2⟩
theorem ee_cb {r : List V → Hp → VK → Prop} {ta : TA} {ds : List Dt} (h : EeA K ta env ds) (hr : RLd K r ds z) : Ee K (tCB r ta) env z := fun F0 H0 F H σ S Q q =>
  h F0 H0 F H σ S _ fun vs F1 H1 w1 r1 => hr F1 H1 vs w1.s r1 Q fun v F3 H3 w3 r3 => q v F3 H3 (w1.trans w3) r3
theorem en_cb {r : List V → Hp → VK → Prop} {ta : TA} {ds es : List Dt} (h : EeA K ta env ds) (hr : RLn K r ds es) : EnL K (tCB r ta) env es := fun F0 H0 F H σ S Q q =>
  h F0 H0 F H σ S _ fun vs F1 H1 w1 r1 => hr F1 H1 vs w1.s r1 Q fun p us F3 H3 w3 n1 n2 h3 r3 => q p us F3 H3 (w1.trans w3) (fresh_back w1.h n1) n2 h3 r3
/-- a new list as data -/
theorem ee_new {ds : List Dt} (h : EnL K te env ds) : Ee K te env (.lst ds) := fun F0 H0 F H σ S Q q =>
  h F0 H0 F H σ S Q fun p vs F1 H1 w n1 n2 h1 r1 => q (.ref p) (L2.upd F1 p (.lst vs)) H1 (w.give S.sub n1 h1) ⟨p, vs, rfl, SqL.of upd_same, r1.mono (Ex.new n2)⟩
theorem ee_tup {ta : TA} {ds : List Dt} (h : EeA K ta env ds) (hl : ds.length ≤ 100000 := by exact Nat.le_of_ble_eq_true rfl) : Ee K (tTup ta) env (.tup ds) := fun F0 H0 F H σ S Q q =>
  h F0 H0 F H σ S _ fun vs F1 H1 w1 r1 => ⟨sz_of (by rw [← r1.length]; exact hl), fun p hp => q (.ref p) (L2.upd F1 p (.tup vs)) (L2.upd H1 p (.tup vs)) (w1.trans (Wk.new w1.s _ hp)) ⟨p, vs, rfl, SqT.of upd_same, r1.mono (Ex.new (none_sub w1.s hp))⟩⟩
theorem en_lst {ta : TA} {ds : List Dt} (h : EeA K ta env ds) (hl : ds.length ≤ 100000 := by exact Nat.le_of_ble_eq_true rfl) : EnL K (tLst ta) env ds := fun F0 H0 F H σ S Q q =>
  h F0 H0 F H σ S _ fun vs F1 H1 w1 r1 => ⟨sz_of (by rw [← r1.length]; exact hl), fun p hp => q p vs F1 (L2.upd H1 p (.lst vs)) (w1.trans (Wk.own w1.s _ hp)) (fresh_back w1.h hp) (none_sub w1.s hp) upd_same r1⟩
theorem ee_lst {ta : TA} {ds : List Dt} (h : EeA K ta env ds) (hl : ds.length ≤ 100000 := by exact Nat.le_of_ble_eq_true rfl) : Ee K (tLst ta) env (.lst ds) := ee_new (en_lst h hl)
theorem ee_chain {a b : Bool} {f : Dt} (ha : Ee K ta env d) (hb : Ee K tb env e) (hr : R2d K r d e (.bl a)) (hc : a = true → Ee K tc env f) (hr' : a = true → R2d K r' e f (.bl b)) : Ee K (tChain r r' ta tb tc) env (.bl (a && b)) := fun F0 H0 F H σ S Q q =>
  ha F0 H0 F H σ S _ fun x F1 H1 w1 r1 => hb F0 H0 F1 H1 σ (S.wk w1) _ fun y F2 H2 w2 r2 => hr F2 H2 x y w2.s (r1.mono w2.f) r2 _ fun v F3 H3 w3 r3 => by
    refine ⟨a, r3, ?_⟩
    cases a with
    | true =>
      show tc σ H3 _
      exact hc rfl F0 H0 F3 H3 σ (((S.wk w1).wk w2).wk w3) _ fun c F4 H4 w4 r4 => hr' rfl F4 H4 y c w4.s (r2.mono (w3.f.trans w4.f)) r4 Q fun v F5 H5 w5 r5 => q v F5 H5 (((((w1.trans w2).trans w3)).trans w4).trans w5) r5
    | false =>
      show Q (.bl false) H3
      exact q _ F3 H3 ((w1.trans w2).trans w3) rfl

/-! ### tests -/
theorem te_test {b : Bool} (h : Ee K te env (.bl b)) : Te K (tTest te) env b := fun F0 H0 F H σ S Q q => h F0 H0 F H σ S _ fun v F1 H1 w1 r1 => ⟨b, r1, q F1 H1 w1⟩
theorem te_B {b : Bool} (h : Ee K te env (.bl b)) : Te K (tB te) env b := fun F0 H0 F H σ S Q q => h F0 H0 F H σ S _ fun v F1 H1 w1 r1 => ⟨b, r1, q F1 H1 w1⟩
theorem te_and {a b : Bool} (h1 : Te K t env a) (h2 : a = true → Te K u env b) : Te K (tAnd t u) env (a && b) := fun F0 H0 F H σ S Q q => h1 F0 H0 F H σ S _ fun F1 H1 w1 => by
  cases a with
  | true =>
    show u σ H1 Q
    exact h2 rfl F0 H0 F1 H1 σ (S.wk w1) Q fun F2 H2 w2 => q F2 H2 (w1.trans w2)
  | false =>
    show Q false H1
    exact q F1 H1 w1
theorem te_or {a b : Bool} (h1 : Te K t env a) (h2 : a = false → Te K u env b) : Te K (tOr t u) env (a || b) := fun F0 H0 F H σ S Q q => h1 F0 H0 F H σ S _ fun F1 H1 w1 => by
  cases a with
  | false =>
    show u σ H1 Q
    exact h2 rfl F0 H0 F1 H1 σ (S.wk w1) Q fun F2 H2 w2 => q F2 H2 (w1.trans w2)
  | true =>
    show Q true H1
    exact q F1 H1 w1
theorem te_not {a : Bool} (h : Te K t env a) : Te K (tNot t) env (!a) := fun F0 H0 F H σ S Q q => h F0 H0 F H σ S _ fun F1 H1 w1 => q F1 H1 w1
theorem ee_and {a b : Bool} (h1 : Ee K ta env (.bl a)) (h2 : a = true → Ee K tb env (.bl b)) : Ee K (tAndV ta tb) env (.bl (a && b)) := fun F0 H0 F H σ S Q q => h1 F0 H0 F H σ S _ fun v F1 H1 w1 r1 => ⟨a, r1, by
  cases a with
  | true =>
    show tb σ H1 Q
    exact h2 rfl F0 H0 F1 H1 σ (S.wk w1) Q fun v F2 H2 w2 r2 => q v F2 H2 (w1.trans w2) r2
  | false =>
    show Q (.bl false) H1
    exact q _ F1 H1 w1 rfl⟩
theorem ee_or {a b : Bool} (h1 : Ee K ta env (.bl a)) (h2 : a = false → Ee K tb env (.bl b)) : Ee K (tOrV ta tb) env (.bl (a || b)) := fun F0 H0 F H σ S Q q => h1 F0 H0 F H σ S _ fun v F1 H1 w1 r1 => ⟨a, r1, by
  cases a with
  | false =>
    show tb σ H1 Q
    exact h2 rfl F0 H0 F1 H1 σ (S.wk w1) Q fun v F2 H2 w2 r2 => q v F2 H2 (w1.trans w2) r2
  | true =>
    show Q (.bl true) H1
    exact q _ F1 H1 w1 rfl⟩
theorem ee_not {a : Bool} (h1 : Ee K ta env (.bl a)) : Ee K (tNotV ta) env (.bl (!a)) := fun F0 H0 F H σ S Q q => h1 F0 H0 F H σ S _ fun v F1 H1 w1 r1 => ⟨a, r1, q _ F1 H1 w1 rfl⟩
theorem ee_if {b : Bool} (h : Te K t env b) (h1 : b = true → Ee K ta env d) (h2 : b = false → Ee K tb env d) : Ee K (tIf t ta tb) env d := fun F0 H0 F H σ S Q q => h F0 H0 F H σ S _ fun F1 H1 w1 => by
  cases b with
  | true =>
    show ta σ H1 Q
    exact h1 rfl F0 H0 F1 H1 σ (S.wk w1) Q fun v F2 H2 w2 r2 => q v F2 H2 (w1.trans w2) r2
  | false =>
    show tb σ H1 Q
    exact h2 rfl F0 H0 F1 H1 σ (S.wk w1) Q fun v F2 H2 w2 r2 => q v F2 H2 (w1.trans w2) r2
def truD : Dt → Option Bool
  | .non => some false
  | .bl b => some b
  | .int i => some (i != 0)
  | .tup ds => some (!ds.isEmpty)
  | .lst ds => some (!ds.isEmpty)
  | _ => none
theorem isEmpty_rp {F : Hp} {ds : List Dt} {vs : List V} (h : RpL K F ds vs) : (!ds.isEmpty) = !vs.isEmpty := by
  have := h.length
  cases ds <;> cases vs <;> simp_all
theorem te_tru {b : Bool} (h : Ee K te env d) (hb : truD d = some b) : Te K (fun σ H Q => te σ H fun x H' => ∃ k, TruV K x H' k ∧ Q k H') env b := fun F0 H0 F H σ S Q q => h F0 H0 F H σ S _ fun v F1 H1 w1 r1 => by
  refine ⟨b, ?_, q F1 H1 w1⟩
  cases d <;> simp only [truD, Option.some.injEq, reduceCtorEq] at hb
  · cases r1; exact hb.symm
  · cases r1; exact hb.symm
  · cases r1; exact hb.symm
  · obtain ⟨a, vs, rfl, h1, h2⟩ := r1
    exact .inr (.inl ⟨vs, ex_t w1.s h1, by rw [← hb, isEmpty_rp h2]⟩)
  · obtain ⟨a, vs, rfl, h1, h2⟩ := r1
    exact .inl ⟨vs, ex_l w1.s h1, by rw [← hb, isEmpty_rp h2]⟩

/-! ### own lists lent to an expression whose value holds no object -/
def flatD : Dt → Bool
  | .non | .bl _ | .int _ | .str _ | .ty _ | .adr _ => true
  | _ => false
theorem Rp.flat {F F' : Hp} {v : V} (h : Rp K F d v) (f : flatD d = true) : Rp K F' d v := by
  cases d <;> first | exact h | cases f
theorem ee_lend {i : Nat} {ds : List Dt} (hi : env[i]? = some (.ol ds)) (h : Ee K te (env.set i (.d (.lst ds))) d) (f : flatD d = true := by rfl) : Ee K te env d := fun F0 H0 F H σ S Q q => by
  obtain ⟨p, vs, h1, h2, h3, h4, S'⟩ := S.freeze hi
  exact h F0 H0 _ H σ S' Q fun v F1 H1 w r => q v F H1 ⟨Ex.refl F, w.h, S.sub.trans w.h, fun _ _ _ n => n⟩ (r.flat f)
theorem te_lend {b : Bool} {i : Nat} {ds : List Dt} (hi : env[i]? = some (.ol ds)) (h : Te K t (env.set i (.d (.lst ds))) b) : Te K t env b := fun F0 H0 F H σ S Q q => by
  obtain ⟨p, vs, h1, h2, h3, h4, S'⟩ := S.freeze hi
  exact h F0 H0 _ H σ S' Q fun F1 H1 w => q F H1 ⟨Ex.refl F, w.h, S.sub.trans w.h, fun _ _ _ n => n⟩

/-! ### operations -/
theorem r2_I0 {g : Int → Int → Int} {i j : Int} : R2d K (rI0 fun i j => .int (g i j)) (.int i) (.int j) (.int (g i j)) := fun F H x y s r1 r2 Q q => ⟨i, j, r1, r2, q _ F H (Wk.refl s) rfl⟩
theorem r2_B0 {g : Int → Int → Bool} {i j : Int} : R2d K (rI0 fun i j => .bl (g i j)) (.int i) (.int j) (.bl (g i j)) := fun F H x y s r1 r2 Q q => ⟨i, j, r1, r2, q _ F H (Wk.refl s) rfl⟩
theorem r2_I {C : Int → Int → Prop} {g : Int → Int → Int} {i j : Int} (c : C i j) : R2d K (rI C fun i j => .int (g i j)) (.int i) (.int j) (.int (g i j)) := fun F H x y s r1 r2 Q q => ⟨i, j, r1, r2, c, q _ F H (Wk.refl s) rfl⟩
theorem r1_U {g : Int → Int} {i : Int} : R1d K (rU fun i => .int (g i)) (.int i) (.int (g i)) := fun F H x s r1 Q q => ⟨i, r1, q _ F H (Wk.refl s) rfl⟩
/-- a value that holds no object -/
def fl : Dt → V
  | .non => .non
  | .bl b => .bl b
  | .int i => .int i
  | .str x => .str x
  | .ty n => .ty n
  | .adr a => .ref a
  | _ => .non
theorem Rp.fl {F : Hp} {v : V} (h : Rp K F d v) (f : flatD d = true) : v = Pw.fl d := by
  cases d <;> first | exact h | cases f
theorem r2_eq (fd : flatD d = true := by rfl) (fe : flatD e = true := by rfl) (hs : scal (fl d) (fl e) = true := by rfl) : R2d K rEq d e (.bl (decide (fl d = fl e))) := fun F H x y s r1 r2 Q q => by
  rw [r1.fl fd, r2.fl fe]
  exact ⟨hs, q _ F H (Wk.refl s) rfl⟩
theorem r2_ne (fd : flatD d = true := by rfl) (fe : flatD e = true := by rfl) (hs : scal (fl d) (fl e) = true := by rfl) : R2d K rNe d e (.bl (!decide (fl d = fl e))) := fun F H x y s r1 r2 Q q => by
  rw [r1.fl fd, r2.fl fe]
  exact ⟨hs, q _ F H (Wk.refl s) rfl⟩
theorem r2_eqI {i j : Int} : R2d K rEq (.int i) (.int j) (.bl (decide (i = j))) := fun F H x y s r1 r2 Q q => by
  cases r1; cases r2
  exact ⟨rfl, q _ F H (Wk.refl s) (by show V.bl _ = V.bl _; simp)⟩
theorem r2_neI {i j : Int} : R2d K rNe (.int i) (.int j) (.bl (!decide (i = j))) := fun F H x y s r1 r2 Q q => by
  cases r1; cases r2
  exact ⟨rfl, q _ F H (Wk.refl s) (by show V.bl _ = V.bl _; simp)⟩
theorem r2_eqS {i j : Str} : R2d K rEq (.str i) (.str j) (.bl (decide (i = j))) := fun F H x y s r1 r2 Q q => by
  cases r1; cases r2
  exact ⟨rfl, q _ F H (Wk.refl s) (by show V.bl _ = V.bl _; simp)⟩
theorem r2_neS {i j : Str} : R2d K rNe (.str i) (.str j) (.bl (!decide (i = j))) := fun F H x y s r1 r2 Q q => by
  cases r1; cases r2
  exact ⟨rfl, q _ F H (Wk.refl s) (by show V.bl _ = V.bl _; simp)⟩
/-- items -/
theorem r2_ixL {ds : List Dt} {i : Int} {j : Nat} (hj : ixN ds.length i = some j) (h : ds[j]? = some z) : R2d K (rIxL K) (.lst ds) (.int i) z := fun F H x y s r1 r2 Q q => by
  obtain ⟨a, vs, rfl, h1, h2⟩ := r1
  obtain ⟨v, g1, g2⟩ := h2.get h
  exact ⟨a, vs, i, v, rfl, r2, ex_l s h1, by unfold atI; rw [← h2.length, hj]; exact g1, q v F H (Wk.refl s) g2⟩
theorem r2_ixT {ds : List Dt} {i : Int} {j : Nat} (hj : ixN ds.length i = some j) (h : ds[j]? = some z) : R2d K (rIxT K) (.tup ds) (.int i) z := fun F H x y s r1 r2 Q q => by
  obtain ⟨a, vs, rfl, h1, h2⟩ := r1
  obtain ⟨v, g1, g2⟩ := h2.get h
  exact ⟨a, vs, i, v, rfl, r2, ex_t s h1, by unfold atI; rw [← h2.length, hj]; exact g1, q v F H (Wk.refl s) g2⟩
theorem ixN_at {n : Nat} {i : Int} (h0 : 0 ≤ i) (h1 : i < n) : ixN n i = some i.toNat := by
  have h := ixN_nat (n := n) (j := i.toNat) (by omega)
  rw [show ((i.toNat : Nat) : Int) = i by omega] at h
  exact h
theorem r2_ixS {w : Str} {i : Int} {c : Nat} (hl : w.length ≤ 100000) (h : atI w.cps.toList i = some c) : R2d K rIxS (.str w) (.int i) (.str ⟨#[c]⟩) := fun F H x y s r1 r2 Q q => by
  cases r1; cases r2
  exact ⟨w, i, c, rfl, rfl, sz_of hl, h, q _ F H (Wk.refl s) rfl⟩
theorem r2_addS {v w : Str} (hl : v.length + w.length ≤ 100000) : R2d K (fun x y H Q => ∃ i j, x = .str i ∧ y = .str j ∧ i.length + j.length ≤ sizeLine ∧ Q (.str (i ++ j)) H) (.str v) (.str w) (.str (v ++ w)) := fun F H x y s r1 r2 Q q => by
  cases r1; cases r2
  exact ⟨v, w, rfl, rfl, sz_of hl, q _ F H (Wk.refl s) rfl⟩
/-- a written sign in a text -/
theorem r2_inS {c : Nat} {w : Str} : R2d K rInS (.str ⟨#[c]⟩) (.str w) (.bl (decide (c ∈ w.cps.toList))) := fun F H x y s r1 r2 Q q => by
  cases r1; cases r2
  exact ⟨c, w, rfl, rfl, q _ F H (Wk.refl s) rfl⟩
theorem r2_niS {c : Nat} {w : Str} : R2d K rNotInS (.str ⟨#[c]⟩) (.str w) (.bl (!decide (c ∈ w.cps.toList))) := fun F H x y s r1 r2 Q q => by
  cases r1; cases r2
  exact ⟨c, w, rfl, rfl, q _ F H (Wk.refl s) rfl⟩
/-- in over a list or tuple of plain values -/
theorem RpL.fl {F : Hp} : ∀ {ds : List Dt} {vs : List V}, RpL K F ds vs → ds.all flatD = true → vs = ds.map Pw.fl
  | [], _, h, _ => h
  | d :: ds, vs, h, f => by
    obtain ⟨v, r, rfl, q, s⟩ := h
    rw [List.all_cons, Bool.and_eq_true] at f
    rw [q.fl f.1, RpL.fl s f.2]
    rfl
theorem r2_in {neg : Bool} {ds : List Dt} (fd : flatD d = true) (fs : ds.all flatD = true) (gd : flatV (fl d) = true) (gs : (ds.map fl).all flatV = true) :
    R2d K (rIn K neg) d (.lst ds) (.bl (if neg then !inV (fl d) (ds.map fl) else inV (fl d) (ds.map fl))) := fun F H x y s r1 r2 Q q => by
  obtain ⟨a, vs, rfl, h1, h2⟩ := r2
  rw [r1.fl fd]
  rw [h2.fl fs] at h1
  exact ⟨a, _, rfl, .inl (ex_l s h1), gd, gs, q _ F H (Wk.refl s) rfl⟩
theorem r2_inT {neg : Bool} {ds : List Dt} (fd : flatD d = true) (fs : ds.all flatD = true) (gd : flatV (fl d) = true) (gs : (ds.map fl).all flatV = true) :
    R2d K (rIn K neg) d (.tup ds) (.bl (if neg then !inV (fl d) (ds.map fl) else inV (fl d) (ds.map fl))) := fun F H x y s r1 r2 Q q => by
  obtain ⟨a, vs, rfl, h1, h2⟩ := r2
  rw [r1.fl fd]
  rw [h2.fl fs] at h1
  exact ⟨a, _, rfl, .inr (ex_t s h1), gd, gs, q _ F H (Wk.refl s) rfl⟩
/-! == of data -/
mutual
def py : Dt → Option PyData
  | .non => some .none
  | .bl b => some (.bool b)
  | .int i => some (.int i)
  | .str x => some (.str x)
  | .tup ds => (pyL ds).map .tuple
  | .lst ds => (pyL ds).map .list
  | _ => none
def pyL : List Dt → Option (List PyData)
  | [] => some []
  | d :: ds => match py d, pyL ds with
    | some p, some ps => some (p :: ps)
    | _, _ => none
end
mutual
theorem Rp.dp {F : Hp} : ∀ {d : Dt} {v : V} {p : PyData}, Rp K F d v → py d = some p → Dp K F v p
  | .non, v, p, h, e => by cases e; cases h; exact .non
  | .bl b, v, p, h, e => by cases e; cases h; exact .bl b
  | .int b, v, p, h, e => by cases e; cases h; exact .int b
  | .str b, v, p, h, e => by cases e; cases h; exact .str b
  | .tup ds, v, p, h, e => by
    obtain ⟨a, vs, rfl, h1, h2⟩ := h
    cases q : pyL ds with
    | none => simp [py, q] at e
    | some ps =>
      simp [py, q] at e
      subst e
      exact .tup h1 (RpL.dp h2 q)
  | .lst ds, v, p, h, e => by
    obtain ⟨a, vs, rfl, h1, h2⟩ := h
    cases q : pyL ds with
    | none => simp [py, q] at e
    | some ps =>
      simp [py, q] at e
      subst e
      exact .lst h1 (RpL.dp h2 q)
  | .dic _ _, _, _, _, e => by simp [py] at e
  | .dit _ _, _, _, _, e => by simp [py] at e
  | .obj _ _ _, _, _, _, e => by simp [py] at e
  | .exc _ _ _, _, _, _, e => by simp [py] at e
  | .ty _, _, _, _, e => by simp [py] at e
  | .adr _, _, _, _, e => by simp [py] at e
theorem RpL.dp {F : Hp} : ∀ {ds : List Dt} {vs : List V} {ps : List PyData}, RpL K F ds vs → pyL ds = some ps → DpAll K F vs ps
  | [], vs, ps, h, e => by
    cases e
    cases (show vs = [] from h)
    exact .nil
  | d :: ds, vs, ps, h, e => by
    obtain ⟨v, r, rfl, q, s⟩ := h
    cases e1 : py d with
    | none => simp [pyL, e1] at e
    | some p =>
      cases e2 : pyL ds with
      | none => simp [pyL, e1, e2] at e
      | some ps' =>
        simp [pyL, e1, e2] at e
        subst e
        exact .cons (Rp.dp q e1) (RpL.dp s e2)
end
mutual
theorem dp_mono {H H' : Hp} (e : Ex H H') : ∀ {p : PyData} {v : V}, Dp K H v p → Dp K H' v p
  | .none, _, h => by cases h; exact .non
  | .bool b, _, h => by cases h; exact .bl b
  | .int b, _, h => by cases h; exact .int b
  | .str b, _, h => by cases h; exact .str b
  | .list ds, _, h => by
    cases h with
    | lst h1 h2 => exact .lst (ex_l e h1) (dpAll_mono e h2)
  | .tuple ds, _, h => by
    cases h with
    | tup h1 h2 => exact .tup (ex_t e h1) (dpAll_mono e h2)
  | .dict _, _, h => by cases h
theorem dpAll_mono {H H' : Hp} (e : Ex H H') : ∀ {ps : List PyData} {vs : List V}, DpAll K H vs ps → DpAll K H' vs ps
  | [], _, h => by cases h; exact .nil
  | p :: ps, _, h => by
    cases h with
    | cons h1 h2 => exact .cons (dp_mono e h1) (dpAll_mono e h2)
end
theorem r2_eqD {p q : PyData} (hp : py d = some p) (hq : py e = some q) (sp : SeqAt.shaped p = true) (sq : SeqAt.shaped q = true) : R2d K (rEqD K) d e (.bl (PyData.eqv p q)) := fun F H x y s r1 r2 Q k =>
  ⟨p, q, dp_mono s (r1.dp hp), dp_mono s (r2.dp hq), sp, sq, k _ F H (Wk.refl s) rfl⟩
theorem r2_neD {p q : PyData} (hp : py d = some p) (hq : py e = some q) (sp : SeqAt.shaped p = true) (sq : SeqAt.shaped q = true) : R2d K (rNeD K) d e (.bl (!PyData.eqv p q)) := fun F H x y s r1 r2 Q k =>
  ⟨p, q, dp_mono s (r1.dp hp), dp_mono s (r2.dp hq), sp, sq, k _ F H (Wk.refl s) rfl⟩
end
end Pw

set_option maxHeartbeats 2000000
namespace Pw
open PySem PySem.Spec PyProof.Rows L2 Evl

/-! ### a def that is a function of data -/
def spF (K : PySem.W.Frag) (f : List Dt → Option Dt) : Sp := fun vs H Q _ => ∃ F ds d, Ex F H ∧ RpL K F ds vs ∧ f ds = some d ∧ Kq K F H d Q
section
variable {K : PySem.W.Frag} {env : En} {ta tb te tc : TE} {t u : TT} {d e z : Dt} {f : List Dt → Option Dt}
theorem ee_call {tA : TA} {ds : List Dt} {E : XK} (h : EeA K tA env ds) (hf : f ds = some d) : Ee K (tCall (spF K f) [] E tA) env d := fun F0 H0 F H σ S Q q =>
  h F0 H0 F H σ S _ fun vs F1 H1 w1 r1 => ⟨F1, ds, d, w1.s, by rw [List.append_nil]; exact r1, hf, fun v F2 H2 w2 r2 => q v F2 H2 (w1.trans w2) r2⟩
theorem spF_len {n : Nat} (hf : ∀ ds d, f ds = some d → ds.length = n) (vs : List V) (H : Hp) (Q : VK) (E : XK) (h : spF K f vs H Q E) : vs.length = n := by
  obtain ⟨F, ds, d, _, r, e, _⟩ := h
  rw [← r.length]
  exact hf ds d e

/-! ### statements -/
inductive Out where
  | nx (e : En) | ct (e : En) | nc (e : En) | bk (e : En) | rt (d : Dt)
def Po (K : PySem.W.Frag) (F0 H0 F : Hp) (D : Ends) : Out → Prop
  | .nx e => ∀ F' H' σ', Ex F F' → Sm K F0 H0 F' H' σ' e → D.nx σ' H'
  | .ct e => ∀ F' H' σ', Ex F F' → Sm K F0 H0 F' H' σ' e → D.ct σ' H'
  | .nc e => ∀ F' H' σ', Ex F F' → Sm K F0 H0 F' H' σ' e → D.nx σ' H' ∧ D.ct σ' H'
  | .bk e => ∀ F' H' σ', Ex F F' → Sm K F0 H0 F' H' σ' e → D.bk σ' H'
  | .rt d => ∀ v F' H', Wk F0 H0 F' H' → Rp K F' d v → D.rt v H'
def Se (K : PySem.W.Frag) (t : TS) (env : En) (o : Out) : Prop := ∀ F0 H0 F H σ D, Sm K F0 H0 F H σ env → Po K F0 H0 F D o → t D σ H
def Ge (K : PySem.W.Frag) (g : TG) (d : Dt) (env env' : En) : Prop := ∀ F0 H0 F H σ v, Sm K F0 H0 F H σ env → Rp K F d v → ∀ Q : L2.St → Hp → Prop, (∀ σ', Sm K F0 H0 F H σ' env' → Q σ' H) → g v σ H Q
variable {s s1 s2 : TS} {o : Out} {env1 env2 : En} {g : TG}
theorem Po.ex {F0 H0 F F' : Hp} {D : Ends} (e : Ex F F') (p : Po K F0 H0 F D o) : Po K F0 H0 F' D o := by
  cases o with
  | nx e1 => exact fun F2 H2 σ2 e2 S => p F2 H2 σ2 (e.trans e2) S
  | ct e1 => exact fun F2 H2 σ2 e2 S => p F2 H2 σ2 (e.trans e2) S
  | nc e1 => exact fun F2 H2 σ2 e2 S => p F2 H2 σ2 (e.trans e2) S
  | bk e1 => exact fun F2 H2 σ2 e2 S => p F2 H2 σ2 (e.trans e2) S
  | rt d => exact p
theorem ge_name {i : Nat} : Ge K (gName i) d env (env.set i (.d d)) := fun F0 H0 F H σ v S r Q q => q _ (S.setD r)
theorem se_asgG (h : Ee K te env d) (hg : Ge K g d env env1) : Se K (tAsg te g) env (.nx env1) := fun F0 H0 F H σ D S p =>
  h F0 H0 F H σ S _ fun v F1 H1 w r => hg F0 H0 F1 H1 σ v (S.wk w) r _ fun σ' S' => p F1 H1 σ' w.f S'
theorem se_asg {i : Nat} (h : Ee K te env d) : Se K (tAsg te (gName i)) env (.nx (env.set i (.d d))) := se_asgG h ge_name
theorem Sm.setU {F0 H0 F H : Hp} {σ : L2.St} (S : Sm K F0 H0 F H σ env) (i : Nat) : Sm K F0 H0 F H (σ.set i none) (env.set i .u) :=
  ⟨S.e0, S.g, by simp [S.len], fun j s e => by
    rcases get_set e with ⟨rfl, rfl, l⟩ | ⟨ne, e⟩
    · exact ⟨none, set_same (by rw [S.len]; exact l), rfl⟩
    · rw [set_ne ne]
      exact S.sl j s e, fun a b ds es p ne e1 e2 h => by
    rcases get_set e1 with ⟨_, z, _⟩ | ⟨n1, e1⟩
    · cases z
    · rcases get_set e2 with ⟨_, z, _⟩ | ⟨n2, e2⟩
      · cases z
      · rw [set_ne n1] at h
        rw [set_ne n2]
        exact S.df a b ds es p ne e1 e2 h⟩
/-- x = a new list that will be changed -/
theorem se_own {i : Nat} {ds : List Dt} (h : EnL K te env ds) : Se K (tAsg te (gName i)) env (.nx (env.set i (.ol ds))) := fun F0 H0 F H σ D S p =>
  h F0 H0 F H σ S _ fun a vs F1 H1 w n1 n2 h1 r => p F1 H1 _ w.f ((S.wk w).setL n2 (none_sub S.g.h n1) h1 r fun j es e z => by
    obtain ⟨v, k1, p, us, rfl, _, _, k3, _⟩ := S.sl j _ e
    rw [k1] at z
    cases z
    rw [n1] at k3
    cases k3)
theorem se_ret (h : Ee K te env d) : Se K (tRet te) env (.rt d) := fun F0 H0 F H σ D S p => h F0 H0 F H σ S _ fun v F1 H1 w r => p v F1 H1 (S.g.trans w) r
theorem se_retN : Se K tRetN env (.rt .non) := fun F0 H0 F H σ D S p => p _ F H S.g rfl
theorem se_next : Se K tNext env (.nx env) := fun F0 H0 F H σ D S p => p F H σ (Ex.refl F) S
theorem se_break : Se K tBreak env (.bk env) := fun F0 H0 F H σ D S p => p F H σ (Ex.refl F) S
theorem se_cont : Se K tCont env (.ct env) := fun F0 H0 F H σ D S p => p F H σ (Ex.refl F) S
theorem se_drop (h : Ee K te env d) : Se K (tDrop te) env (.nx env) := fun F0 H0 F H σ D S p => h F0 H0 F H σ S _ fun v F1 H1 w r => p F1 H1 σ w.f (S.wk w)
theorem se_seq (h1 : Se K s1 env (.nx env1)) (h2 : Se K s2 env1 o) : Se K (tSeq s1 s2) env o := fun F0 H0 F H σ D S p =>
  h1 F0 H0 F H σ _ S fun F1 H1 σ1 e1 S1 => h2 F0 H0 F1 H1 σ1 D S1 (p.ex e1)
theorem se_seqR (h1 : Se K s1 env (.rt d)) : Se K (tSeq s1 s2) env (.rt d) := fun F0 H0 F H σ D S p => h1 F0 H0 F H σ _ S p
theorem se_seqB (h1 : Se K s1 env (.bk env1)) : Se K (tSeq s1 s2) env (.bk env1) := fun F0 H0 F H σ D S p => h1 F0 H0 F H σ _ S p
theorem se_seqC (h1 : Se K s1 env (.ct env1)) : Se K (tSeq s1 s2) env (.ct env1) := fun F0 H0 F H σ D S p => h1 F0 H0 F H σ _ S p
theorem se_nc (h : Se K s env (.nx env1)) : Se K s env (.nc env1) := fun F0 H0 F H σ D S p => h F0 H0 F H σ D S fun F1 H1 σ1 e1 S1 => (p F1 H1 σ1 e1 S1).1
theorem se_cc (h : Se K s env (.ct env1)) : Se K s env (.nc env1) := fun F0 H0 F H σ D S p => h F0 H0 F H σ D S fun F1 H1 σ1 e1 S1 => (p F1 H1 σ1 e1 S1).2
theorem se_if {b : Bool} (h : Te K t env b) (h1 : b = true → Se K s1 env o) (h2 : b = false → Se K s2 env o) : Se K (tIfS t s1 s2) env o := fun F0 H0 F H σ D S p => h F0 H0 F H σ S _ fun F1 H1 w => by
  cases b with
  | true =>
    show s1 D σ H1
    exact h1 rfl F0 H0 F1 H1 σ D (S.wk w) (p.ex w.f)
  | false =>
    show s2 D σ H1
    exact h2 rfl F0 H0 F1 H1 σ D (S.wk w) (p.ex w.f)
/-- if t: s1 (no else), then s2 -/
theorem se_when {b : Bool} (h : Te K t env b) (h1 : b = true → Se K (tSeq s1 s2) env o) (h2 : b = false → Se K s2 env o) : Se K (tSeq (tIfS t s1 tNext) s2) env o := fun F0 H0 F H σ D S p => h F0 H0 F H σ S _ fun F1 H1 w => by
  cases b with
  | true =>
    show s1 { D with nx := s2 D } σ H1
    exact h1 rfl F0 H0 F1 H1 σ D (S.wk w) (p.ex w.f)
  | false =>
    show s2 D σ H1
    exact h2 rfl F0 H0 F1 H1 σ D (S.wk w) (p.ex w.f)
/-- if t: s1 else: s2, then s -/
theorem se_ifq {b : Bool} (h : Te K t env b) (h1 : b = true → Se K (tSeq s1 s) env o) (h2 : b = false → Se K (tSeq s2 s) env o) : Se K (tSeq (tIfS t s1 s2) s) env o := fun F0 H0 F H σ D S p => h F0 H0 F H σ S _ fun F1 H1 w => by
  cases b with
  | true =>
    show s1 { D with nx := s D } σ H1
    exact h1 rfl F0 H0 F1 H1 σ D (S.wk w) (p.ex w.f)
  | false =>
    show s2 { D with nx := s D } σ H1
    exact h2 rfl F0 H0 F1 H1 σ D (S.wk w) (p.ex w.f)
theorem se_le (h : Se K s env (.nx env1)) (l : Le env1 env2) : Se K s env (.nx env2) := fun F0 H0 F H σ D S p => h F0 H0 F H σ D S fun F1 H1 σ1 e1 S1 => p F1 H1 σ1 e1 (S1.le l)
theorem se_lec (h : Se K s env (.nc env1)) (l : Le env1 env2) : Se K s env (.nc env2) := fun F0 H0 F H σ D S p => h F0 H0 F H σ D S fun F1 H1 σ1 e1 S1 => p F1 H1 σ1 e1 (S1.le l)
theorem se_pre (l : Le env env1) (h : Se K s env1 o) : Se K s env o := fun F0 H0 F H σ D S p => h F0 H0 F H σ D (S.le l) p
theorem se_freeze {i : Nat} {ds : List Dt} (hi : env[i]? = some (.ol ds)) (h : Se K s (env.set i (.d (.lst ds))) o) : Se K s env o := fun F0 H0 F H σ D S p => by
  obtain ⟨a, vs, h1, h2, h3, h4, S'⟩ := S.freeze hi
  exact h F0 H0 _ H σ D S' (p.ex (Ex.new h2))
theorem se_is (h : Se K s env o) {o' : Out} (e : o = o') : Se K s env o' := by
  rw [← e]
  exact h
/-! own lists changed -/
theorem Sm.mutL {F0 H0 F H : Hp} {σ : L2.St} (S : Sm K F0 H0 F H σ env) {i : Nat} {ds es : List Dt} {p : Addr} {us : List V} (hi : env[i]? = some (.ol ds)) (hp : σ[i]? = some (some (.ref p))) (r : RpL K F es us) :
    Sm K F0 H0 F (L2.upd H p (.lst us)) σ (env.set i (.ol es)) := by
  obtain ⟨v, h1, q, vs, rfl, g1, g2, g3, g4⟩ := S.sl i _ hi
  rw [hp] at h1
  cases h1
  refine ⟨S.e0, ⟨S.g.f, fun a u z => ?_, fun a u z => ?_, S.g.n⟩, by simp [S.len], fun j s e => ?_, fun a b ds1 es1 q ne e1 e2 h => ?_⟩
  · rw [upd_ne (ne_of_none z g2)]
    exact S.g.h a u z
  · rw [upd_ne (ne_of_none z g1)]
    exact S.g.s a u z
  · rcases get_set e with ⟨rfl, rfl, l⟩ | ⟨ne, e⟩
    · exact ⟨_, hp, p, us, rfl, g1, g2, upd_same, r⟩
    · obtain ⟨w, k1, k2⟩ := S.sl j s e
      refine ⟨w, k1, ?_⟩
      cases s with
      | x => trivial
      | u => exact k2
      | d d => exact k2
      | ol es1 =>
        obtain ⟨q, us1, eq, f1, f2, f3, f4⟩ := k2
        have nq : q ≠ p := fun z => S.df i j ds es1 p ne hi e hp (by rw [k1, eq, z])
        exact ⟨q, us1, eq, f1, f2, by rw [upd_ne nq]; exact f3, f4⟩
  · rcases get_set e1 with ⟨ra, z1, _⟩ | ⟨n1, e1⟩
    · rcases get_set e2 with ⟨rb, z2, _⟩ | ⟨n2, e2⟩
      · exact absurd (ra.symm.trans rb) ne
      · subst ra
        exact S.df i b ds es1 q ne hi e2 h
    · rcases get_set e2 with ⟨rb, z2, _⟩ | ⟨n2, e2⟩
      · subst rb
        exact S.df a i ds1 ds q ne e1 hi h
      · exact S.df a b ds1 es1 q ne e1 e2 h
theorem se_app {i : Nat} {ds : List Dt} (hi : env[i]? = some (.ol ds)) (h : Ee K te env d) (hz : ds.length < 100000) : Se K (tDrop (tBM K "list" rAppend (tVar i) (tCons te tNil))) env (.nx (env.set i (.ol (ds ++ [d])))) := fun F0 H0 F H σ D S p => by
  obtain ⟨v, h1, a, vs, rfl, g1, g2, g3, g4⟩ := S.sl i _ hi
  refine ⟨_, h1, .inl ⟨rfl, vs, sq_of g3⟩, h F0 H0 F H σ S _ fun v F1 H1 w r => ⟨a, vs, v, rfl, rfl, w.h a _ g3, sz_lt (by rw [← g4.length]; exact hz), ?_⟩⟩
  exact p F1 _ σ w.f ((S.wk w).mutL hi h1 (RpL.append (g4.mono w.f) (RpL.cons r RpL.nil)))
theorem se_setL {i : Nat} {ds : List Dt} {k : Int} {n : Nat} (hi : env[i]? = some (.ol ds)) (h : Ee K te env d) (hk : Ee K tb env (.int k)) (hn : ixN ds.length k = some n) : Se K (tAsg te (gSub (tVar i) tb rSetL)) env (.nx (env.set i (.ol (ds.set n d)))) := fun F0 H0 F H σ D S p => by
  obtain ⟨v, h1, a, vs, rfl, g1, g2, g3, g4⟩ := S.sl i _ hi
  refine h F0 H0 F H σ S _ fun v F1 H1 w r => ⟨_, h1, hk F0 H0 F1 H1 σ (S.wk w) _ fun kv F2 H2 w2 r2 => ⟨a, vs, k, n, rfl, r2, w2.h a _ (w.h a _ g3), by rw [← g4.length]; exact hn, ?_⟩⟩
  exact p F2 _ σ (w.f.trans w2.f) (((S.wk w).wk w2).mutL hi h1 (RpL.set n (g4.mono (w.f.trans w2.f)) (r.mono w2.f)))

/-! ### a def's body -/
theorem Sm.start {F H : Hp} {ds : List Dt} {vs : List V} {N : List Str} (e : Ex F H) (r : RpL K F ds vs) : Sm K F H F H (L2.start N vs) (ds.map Sl.d ++ List.replicate (N.length - ds.length) Sl.u) := by
  have hl := r.length
  refine ⟨e, Wk.refl e, by simp [L2.start, hl], fun i s h => ?_, fun i j es fs p ne e1 e2 _ => ?_⟩
  · unfold L2.start
    by_cases hi : i < ds.length
    · rw [List.getElem?_append_left (by simpa using hi), List.getElem?_map] at h
      cases q : ds[i]? with
      | none => rw [q] at h; cases h
      | some d =>
        rw [q] at h
        cases h
        obtain ⟨v, h1, h2⟩ := r.get q
        exact ⟨some v, by rw [List.getElem?_append_left (by simp; omega), List.getElem?_map, h1]; rfl, v, rfl, h2⟩
    · rw [List.getElem?_append_right (by simpa using hi), List.length_map, List.getElem?_replicate] at h
      split at h
      · rename_i lt
        cases h
        exact ⟨none, by rw [List.getElem?_append_right (by simp; omega), List.length_map, List.getElem?_replicate, if_pos (by omega)], rfl⟩
      · cases h
  · by_cases hi : i < ds.length
    · rw [List.getElem?_append_left (by simpa using hi), List.getElem?_map] at e1
      cases q : ds[i]? <;> rw [q] at e1 <;> cases e1
    · rw [List.getElem?_append_right (by simpa using hi), List.length_map, List.getElem?_replicate] at e1
      split at e1 <;> cases e1
theorem run_rt {s : TS} {N : List Str} {vs : List V} {H : Hp} {Q : VK} {E : XK} (h : spF K f vs H Q E) (b : ∀ ds d, f ds = some d → Se K s (ds.map Sl.d ++ List.replicate (N.length - ds.length) Sl.u) (.rt d)) : s { nx := fun _ H' => Q .non H', rt := Q } (L2.start N vs) H := by
  obtain ⟨F, ds, d, e, r, hf, q⟩ := h
  exact b ds d hf F H F H _ _ (Sm.start e r) fun v F' H' w r' => q v F' H' w r'
theorem se_end {env1 : En} (h : Se K s env (.nx env1)) : ∀ F0 H0 F H σ (Q : VK), Sm K F0 H0 F H σ env → Kq K F0 H0 .non Q → s { nx := fun _ H' => Q .non H', rt := Q } σ H := fun F0 H0 F H σ Q S q => h F0 H0 F H σ _ S fun F1 H1 σ1 e1 S1 => q .non F1 H1 S1.g rfl

/-! ### walks -/
def Wl (K : PySem.W.Frag) (F1 : Hp) (J : It) (ds : List Dt) : Prop := Walk J ds.length (fun H => Ex F1 H) (fun i H x H' => ∀ F2, Ex F1 F2 → Ex F2 H → ∃ F3 d, Wk F2 H F3 H' ∧ ds[i]? = some d ∧ Rp K F3 d x)
def Ie (K : PySem.W.Frag) (wi : TI) (env : En) (ds : List Dt) : Prop := ∀ F0 H0 F H σ, Sm K F0 H0 F H σ env → ∀ R : It → Hp → Prop, (∀ J F' H', Wk F H F' H' → Wl K F' J ds → R J H') → wi σ H R
theorem wl_at {F : Hp} {ds : List Dt} {vs : List V} {J : It} {G : Hp → Prop} (r : RpL K F ds vs) (w : Walk J vs.length G (YAt vs)) (hg : ∀ H, Ex F H → G H) : Wl K F J ds := by
  unfold Wl
  rw [r.length]
  refine w.mono hg fun i H x H' hi e y F2 e2 e3 => ?_
  obtain ⟨rfl, hx⟩ := y
  obtain ⟨d, h1, h2⟩ := r.getV hx
  exact ⟨F2, d, Wk.refl e3, h1, h2.mono e2⟩
theorem ie_list {tl : TE} {ds : List Dt} (h : Ee K tl env (.lst ds)) : Ie K (iList K tl) env ds := fun F0 H0 F H σ S R k =>
  h F0 H0 F H σ S _ fun v F1 H1 w r => by
    obtain ⟨a, vs, rfl, h1, h2⟩ := r
    exact ⟨a, rfl, ⟨vs, ex_l w.s h1⟩, k _ F1 H1 w (wl_at h2 walk_list fun H e => ex_l e h1)⟩
theorem ie_tup {tl : TE} {ds : List Dt} (h : Ee K tl env (.tup ds)) : Ie K (iTup K tl) env ds := fun F0 H0 F H σ S R k =>
  h F0 H0 F H σ S _ fun v F1 H1 w r => by
    obtain ⟨a, vs, rfl, h1, h2⟩ := r
    exact ⟨a, rfl, ⟨vs, ex_t w.s h1⟩, k _ F1 H1 w (wl_at h2 walk_tup fun H e => ex_t e h1)⟩
def rangeD (lo : Int) (n : Nat) : List Dt := (List.range n).map fun (i : Nat) => Dt.int (lo + i)
theorem rangeD_len (lo : Int) (n : Nat) : (rangeD lo n).length = n := by simp [rangeD]
theorem wl_range {F : Hp} {lo : Int} {n : Nat} : Wl K F (Itr lo n) (rangeD lo n) := by
  unfold Wl
  rw [rangeD_len]
  refine walk_range.mono (fun _ _ => trivial) fun i H x H' hi e y F2 e2 e3 => ?_
  obtain ⟨rfl, rfl⟩ := y
  exact ⟨F2, .int (lo + i), Wk.refl e3, by simp [rangeD, hi], rfl⟩
theorem ie_rng1 {tA : TA} {n : Int} (h : EeA K tA env [.int n]) (hn : -100000 ≤ n ∧ n ≤ 100000) : Ie K (iRng1 tA) env (rangeD 0 n.toNat) := fun F0 H0 F H σ S R k =>
  h F0 H0 F H σ S _ fun vs F1 H1 w r => by
    obtain ⟨v, r', rfl, e1, e2⟩ := r
    cases e1; cases e2
    exact ⟨n, rfl, by omega, by omega, k _ F1 H1 w wl_range⟩
theorem ie_rng2 {tA : TA} {lo n : Int} (h : EeA K tA env [.int lo, .int n]) (hn : -100000 ≤ n ∧ n ≤ 100000 ∧ -100000 ≤ lo ∧ lo ≤ 100000) : Ie K (iRng2 tA) env (rangeD lo (n - lo).toNat) := fun F0 H0 F H σ S R k =>
  h F0 H0 F H σ S _ fun vs F1 H1 w r => by
    obtain ⟨v, r', rfl, e1, v2, r2, rfl, e2, e3⟩ := r
    cases e1; cases e2; cases e3
    exact ⟨lo, n, rfl, ⟨by omega, by omega, by omega, by omega⟩, k _ F1 H1 w wl_range⟩
def charsD (w : Str) : List Dt := w.cps.toList.map fun c => Dt.str ⟨#[c]⟩
theorem ie_str {tl : TE} {x : Str} (h : Ee K tl env (.str x)) : Ie K (iStr tl) env (charsD x) := fun F0 H0 F H σ S R k =>
  h F0 H0 F H σ S _ fun v F1 H1 w r => by
    cases r
    refine ⟨x, rfl, k _ F1 H1 w ?_⟩
    have hl : (charsD x).length = x.cps.size := by simp [charsD]
    unfold Wl
    rw [hl]
    refine walk_str.mono (fun _ _ => trivial) fun i H x' H' hi e y F2 e2 e3 => ?_
    obtain ⟨rfl, c, hc, rfl⟩ := y
    exact ⟨F2, .str ⟨#[c]⟩, Wk.refl e3, by simp [charsD, hc], rfl⟩
/-- over an own list that the loop leaves as it is: lent -/
theorem ie_own {i : Nat} {ds : List Dt} (hi : env[i]? = some (.ol ds)) : ∀ F0 H0 F H σ, Sm K F0 H0 F H σ env → True := fun _ _ _ _ _ _ => trivial

/-! ### loops -/
theorem se_for {wi : TI} {tb : TS} {ds : List Dt} (hI : Ie K wi env ds) (E : Nat → En) (m : Nat) (hm : m ≤ ds.length) (h0 : Le env (E 0))
    (hs : ∀ i d, i < m → ds[i]? = some d → ∃ e1, Ge K g d (E i) e1 ∧ Se K tb e1 (.nc (E (i + 1))))
    (hd : (m = ds.length ∧ o = .nx (E m)) ∨ ∃ d e1, ds[m]? = some d ∧ Ge K g d (E m) e1 ∧ ((∃ z, o = .rt z ∧ Se K tb e1 (.rt z)) ∨ ∃ e, o = .nx e ∧ Se K tb e1 (.bk e))) : Se K (tFor wi g tb) env o := fun F0 H0 F H σ D S p =>
  hI F0 H0 F H σ S _ fun J F1 H1 w W => by
    refine for_it W (fun i σ H => i ≤ m ∧ ∃ F, Ex F1 F ∧ Sm K F0 H0 F H σ (E i)) ⟨Nat.zero_le m, F1, Ex.refl F1, (S.wk w).le h0⟩ (fun i σ H _ h => ?_) (fun i x σ H H' hi h y => ?_) (fun σ H h => ?_)
    · obtain ⟨_, F2, e2, S2⟩ := h
      exact e2.trans S2.sub
    · obtain ⟨him, F2, e2, S2⟩ := h
      obtain ⟨F3, d, w3, hd', r3⟩ := y F2 e2 S2.sub
      by_cases hlt : i < m
      · obtain ⟨e1, hg, hb⟩ := hs i d hlt hd'
        refine hg F0 H0 F3 H' σ x (S2.wk w3) r3 _ fun σ3 S3 => ?_
        refine hb F0 H0 F3 H' σ3 _ S3 fun F4 H4 σ4 e4 S4 => ⟨⟨hlt, F4, (e2.trans w3.f).trans e4, S4⟩, ⟨hlt, F4, (e2.trans w3.f).trans e4, S4⟩⟩
      · have him' : i = m := by omega
        subst him'
        rcases hd with ⟨e, _⟩ | ⟨d', e1, h1, hg, hb⟩
        · omega
        · rw [hd'] at h1
          cases h1
          refine hg F0 H0 F3 H' σ x (S2.wk w3) r3 _ fun σ3 S3 => ?_
          rcases hb with ⟨z, rfl, hz⟩ | ⟨e, rfl, hz⟩
          · exact hz F0 H0 F3 H' σ3 _ S3 p
          · exact hz F0 H0 F3 H' σ3 _ S3 fun F4 H4 σ4 e4 S4 => p F4 H4 σ4 (((w.f.trans e2).trans w3.f).trans e4) S4
    · obtain ⟨hn, F2, e2, S2⟩ := h
      have e : m = ds.length := by omega
      rcases hd with ⟨_, rfl⟩ | ⟨d', e1, h1, _⟩
      · rw [← e] at S2
        exact p F2 H σ (w.f.trans e2) S2
      · have := (List.getElem?_eq_some_iff.mp h1).1
        omega
/-- a fold -/
theorem se_fold {α S : Type} {wi : TI} {tb : TS} {ds : List Dt} (xs : List α) (dec : α → Dt) (hds : ds = xs.map dec) (hI : Ie K wi env ds) (enc : S → En) (step : S → α → S) (P : S → List α → Prop) (s0 : S) (h0 : Le env (enc s0)) (p0 : P s0 [])
    (hs : ∀ s pre a post, xs = pre ++ a :: post → P s pre → P (step s a) (pre ++ [a]) ∧ ∃ e1, Ge K g (dec a) (enc s) e1 ∧ Se K tb e1 (.nc (enc (step s a)))) : Se K (tFor wi g tb) env (.nx (enc (xs.foldl step s0))) := by
  subst hds
  have key : ∀ i, i ≤ xs.length → P ((xs.take i).foldl step s0) (xs.take i) := by
    intro i
    induction i with
    | zero => intro _; exact p0
    | succ i ih =>
      intro hi
      have hx : xs = xs.take i ++ xs[i] :: xs.drop (i + 1) := by simp
      have e : xs.take (i + 1) = xs.take i ++ [xs[i]] := by simp
      rw [e, List.foldl_append]
      exact (hs _ (xs.take i) xs[i] (xs.drop (i + 1)) hx (ih (by omega))).1
  refine se_for hI (fun i => enc ((xs.take i).foldl step s0)) xs.length (by simp) h0 (fun i d hi hd => ?_) (.inl ⟨by simp, by simp⟩)
  rw [List.getElem?_map, List.getElem?_eq_getElem hi] at hd
  cases hd
  have hx : xs = xs.take i ++ xs[i] :: xs.drop (i + 1) := by simp
  obtain ⟨_, e1, h1, h2⟩ := hs _ (xs.take i) xs[i] (xs.drop (i + 1)) hx (key i (by omega))
  refine ⟨e1, h1, ?_⟩
  have e : xs.take (i + 1) = xs.take i ++ [xs[i]] := by simp
  rw [e, List.foldl_append]
  exact h2
theorem se_while {tb : TS} (P : En → Prop) (μ : En → Nat) (hs : ∀ e, P e → ∃ b, Te K t e b ∧ (b = true → (∃ e', P e' ∧ μ e' < μ e ∧ Se K tb e (.nc e')) ∨ (∃ z, o = .rt z ∧ Se K tb e (.rt z)) ∨ ∃ e', o = .nx e' ∧ Se K tb e (.bk e')) ∧ (b = false → o = .nx e)) (h0 : P env) : Se K (tWhile t tb) env o := fun F0 H0 F H σ D S p => by
  refine ⟨fun m σ' H' => ∃ e F', P e ∧ μ e = m ∧ Ex F F' ∧ Sm K F0 H0 F' H' σ' e, ⟨_, env, F, h0, rfl, Ex.refl F, S⟩, ?_⟩
  rintro m σ' H' ⟨e, F', hP, rfl, ex, S'⟩
  obtain ⟨b, hb, h1, h2⟩ := hs e hP
  refine hb F0 H0 F' H' σ' S' _ fun F1 H1 w => ?_
  cases b with
  | true =>
    refine ⟨fun σ2 H2 => ∃ e2 F2, P e2 ∧ μ e2 < μ e ∧ Ex F F2 ∧ Sm K F0 H0 F2 H2 σ2 e2, fun σ2 H2 ⟨e2, F2, a, b, c, d⟩ => ⟨μ e2, b, e2, F2, a, rfl, c, d⟩, ?_⟩
    rcases h1 rfl with ⟨e', p1, p2, p3⟩ | ⟨z, rfl, p3⟩ | ⟨e', rfl, p3⟩
    · exact p3 F0 H0 F1 H1 σ' _ (S'.wk w) fun F4 H4 σ4 e4 S4 => ⟨⟨e', F4, p1, p2, (ex.trans w.f).trans e4, S4⟩, ⟨e', F4, p1, p2, (ex.trans w.f).trans e4, S4⟩⟩
    · exact p3 F0 H0 F1 H1 σ' _ (S'.wk w) p
    · exact p3 F0 H0 F1 H1 σ' _ (S'.wk w) fun F4 H4 σ4 e4 S4 => p F4 H4 σ4 ((ex.trans w.f).trans e4) S4
  | false =>
    have := h2 rfl
    subst this
    exact p F1 H1 σ' (ex.trans w.f) (S'.wk w)

/-! ### comprehensions -/
theorem en_lc {wi : TI} {tt : TT} {j : Nat} {ds : List Dt} (hI : Ie K wi env ds) (hn : ds.length ≤ 40000) (p : Dt → Bool) (v : Dt → Dt) (ht : ∀ d ∈ ds, Te K tt (env.set j (.d d)) (p d)) (he : ∀ d ∈ ds, p d = true → Ee K te (env.set j (.d d)) (v d)) :
    EnL K (tLc wi (gName j) tt te [j]) env ((ds.filter p).map v) := fun F0 H0 F H σ S Q q =>
  hI F0 H0 F H σ S _ fun J F1 H1 w W D hD => by
    have nF : F1 D = none := none_sub w.s hD
    have n0 : H0 D = none := none_sub (S.wk w).g.h hD
    have nO : ∀ (i : Nat) (es : List Dt), env[i]? = some (.ol es) → σ[i]? ≠ some (some (.ref D)) := fun i es e z => by
      obtain ⟨v, k1, p, us, rfl, _, _, k3, _⟩ := (S.wk w).sl i _ e
      rw [k1] at z
      cases z
      rw [hD] at k3
      cases k3
    refine lc_it W (fun i H2 => ∃ F2 acc, Ex F1 F2 ∧ F2 D = none ∧ H2 D = some (.lst acc) ∧ RpL K F2 (((ds.take i).filter p).map v) acc ∧ Sm K F0 H0 F2 H2 σ env ∧ Ex H1 H2 ∧ (∀ a o, H1 a = some o → F1 a = none → F2 a = none))
      ⟨F1, [], Ex.refl F1, nF, upd_same, rfl, (S.wk w).upd _ nF n0 nO, Ex.new hD, fun _ _ _ n => n⟩ (fun i H2 _ h => ?_) (fun i x H2 H2' hi h y => ?_) (fun H2 h => ?_)
    · obtain ⟨F2, acc, e2, _, _, _, S2, _⟩ := h
      exact e2.trans S2.sub
    · obtain ⟨F2, acc, e2, d2, h2, r2, S2, x2, n2⟩ := h
      obtain ⟨F3, d, w3, hd, r3⟩ := y F2 e2 S2.sub
      have hmem : d ∈ ds := List.mem_of_getElem? hd
      have hset : (env.set j .u).set j (.d d) = env.set j (.d d) := by rw [List.set_set]
      have S3 : Sm K F0 H0 F3 H2' ((σ.set j none).set j (some x)) (env.set j (.d d)) := by
        rw [← hset]
        exact ((S2.wk w3).setU j).setD r3
      have etake : ds.take (i + 1) = ds.take i ++ [d] := by
        rw [List.take_add_one, hd]
        rfl
      refine ⟨by simp [wipe, List.set_set], ?_⟩
      show tt ((σ.set j none).set j (some x)) H2' _
      refine ht d hmem F0 H0 F3 H2' _ S3 _ fun F4 H4 w4 => ?_
      have hD4 : H4 D = some (.lst acc) := w4.h D _ (w3.h D _ h2)
      cases hp : p d with
      | true =>
        show te ((σ.set j none).set j (some x)) H4 _
        refine he d hmem hp F0 H0 F4 H4 _ (S3.wk w4) _ fun vv F5 H5 w5 r5 => ?_
        have hD5 : H5 D = some (.lst acc) := w5.h D _ hD4
        have w35 : Wk F2 H2 F5 H5 := (w3.trans w4).trans w5
        have dF5 : F5 D = none := w35.n D _ h2 d2
        have hlen : acc.length < sizeLine := by
          rw [← r2.length, List.length_map]
          have h1 := List.length_filter_le p (ds.take i)
          have h2 : (ds.take i).length ≤ i := by simp; omega
          exact sz_lt (by omega)
        refine ⟨acc, hD5, hlen, F5, acc ++ [vv], e2.trans w35.f, dF5, upd_same, ?_, (S2.wk w35).upd _ dF5 n0 nO, fun a o h => ?_, fun a o h h' => w35.n a o (x2 a o h) (n2 a o h h')⟩
        · rw [etake, List.filter_append, List.map_append]
          refine RpL.append (r2.mono w35.f) ?_
          rw [List.filter_cons, if_pos hp]
          exact RpL.cons r5 RpL.nil
        · rw [upd_ne (ne_of_none h hD)]
          exact w35.h a o (x2 a o h)
      | false =>
        have w34 : Wk F2 H2 F4 H4 := w3.trans w4
        refine ⟨F4, acc, e2.trans w34.f, w34.n D _ h2 d2, hD4, ?_, S2.wk w34, x2.trans w34.h, fun a o h h' => w34.n a o (x2 a o h) (n2 a o h h')⟩
        rw [etake, List.filter_append, List.map_append, List.filter_cons, if_neg (by simp [hp])]
        show RpL K F4 (((ds.take i).filter p).map v ++ []) acc
        rw [List.append_nil]
        exact r2.mono w34.f
    · obtain ⟨F2, acc, e2, d2, h2, r2, S2, x2, n2⟩ := h
      rw [List.take_length] at r2
      exact q D acc F2 H2 (w.trans ⟨e2, x2, S2.sub, n2⟩) (fresh_back w.h hD) d2 h2 r2
theorem te_yes : Te K tYes env true := fun F0 H0 F H σ S Q q => q F H (Wk.refl S.sub)
theorem en_map {wi : TI} {j : Nat} {ds : List Dt} (hI : Ie K wi env ds) (hn : ds.length ≤ 40000) (v : Dt → Dt) (he : ∀ d ∈ ds, Ee K te (env.set j (.d d)) (v d)) : EnL K (tLc wi (gName j) tYes te [j]) env (ds.map v) := by
  have h := en_lc (K := K) (te := te) (j := j) hI hn (fun _ => true) v (fun d _ => te_yes) fun d hd _ => he d hd
  have e : ds.filter (fun _ => true) = ds := by simp
  rw [e] at h
  exact h
end
end Pw

set_option maxHeartbeats 2000000
namespace Pw
open PySem PySem.Spec PyProof.Rows L2 Evl

/-! ### defs of the text, called by name -/
theorem _root_.L2.FunD.at_ {K : PySem.W.Frag} {x qual : Str} {params : Arguments} {body : List Stmt} {scope : Scope} {dvs : List V} {kws : List (Str × V)} {f : Addr} {fd : FuncData} (F : FunD K x qual params body scope dvs kws f fd) : ∃ oc od osl, K.lookup f = some ⟨oc, od, .func fd, osl⟩ := by
  obtain ⟨oc, od, dV, kV, doc, pm, an, cdv, ct, osl, rfl, lk, _⟩ := F.ex
  exact ⟨oc, od, osl, lk⟩
/-- the def x of the text stands behind the top as st tells it -/
def Df (K : PySem.W.Frag) (mg : Str → Option Value) (x : Str) (ps : List Str) (st : Stmt) : Prop :=
  ∃ f fd, mg x = some (.ref f) ∧ FunD K x x (defArgs st) (defBody st) (defScope st) [] [] f fd ∧ Binds K fd ps []
/-- x is called by name and keeps sp -/
def Fn (P : Program) (w : World) (K : PySem.W.Frag) (mg : Str → Option Value) (base : Heap) (k : Nat) (x : Str) (ps : List Str) (sp : Sp) : Prop :=
  ∃ f fd, mg x = some (.ref f) ∧ PySem.W.keepIn K (.ref f) = true ∧ Binds K fd ps [] ∧ FnOk P w K mg base CX0 k f fd ps sp ∧ ∃ oc od osl, K.lookup f = some ⟨oc, od, .func fd, osl⟩
section
variable {P : Program} {w : World} {K : PySem.W.Frag} {mg : Str → Option Value} {base : Heap}
theorem Fn.mono {j k : Nat} {x : Str} {ps : List Str} {sp : Sp} (F : Fn P w K mg base j x ps sp) (h : j ≤ k) : Fn P w K mg base k x ps sp := by
  obtain ⟨f, fd, h1, h2, h3, h4, h5⟩ := F
  exact ⟨f, fd, h1, h2, h3, h4.mono h, h5⟩
theorem Fn.imp {k : Nat} {x : Str} {ps : List Str} {sp sp' : Sp} (F : Fn P w K mg base k x ps sp) (h : ∀ vs H Q E, sp' vs H Q E → sp vs H Q E) : Fn P w K mg base k x ps sp' := by
  obtain ⟨f, fd, h1, h2, h3, h4, h5⟩ := F
  exact ⟨f, fd, h1, h2, h3, h4.imp h, h5⟩
/-- THE RULE for a def that is a function of data -/
theorem Fn.of {x : Str} {ps N : List Str} {st : Stmt} {k : Nat} {m : List Dt → Option Dt} (D : Df K mg x ps st) (S : FnScope N ps (defScope st)) (hl : ∀ ds d, m ds = some d → ds.length = ps.length)
    (hb : ∀ (f : Addr) (cdv : Value) (A : Around) (outer : List Env) (s : Shared) (H : Hp) (E : XK), Room k (A.deeper (envOfC x (defScope st) s.heap.objs.size f cdv)) →
      ∃ t, PSs (cxOf CX0 P w K mg base N x (defScope st) f cdv A outer s H E).nox (defBody st) t ∧ ∀ ds d, m ds = some d → Se K t (ds.map Sl.d ++ List.replicate (N.length - ds.length) Sl.u) (.rt d)) :
    Fn P w K mg base (k + 1) x ps (spF K m) := by
  obtain ⟨f, fd, h1, F, h3⟩ := D
  refine ⟨f, fd, h1, F.kp, h3, F.ok S (fun vs H Q E h => spF_len hl vs H Q E h) fun cdv A outer s H vs Q E hr h => ?_, F.at_⟩
  obtain ⟨t, ht, hs⟩ := hb f cdv A outer s H E hr
  exact ⟨t, PSs.nox ht, run_rt h hs⟩
/-- .. for any promise -/
theorem Fn.ofSp {x : Str} {ps N : List Str} {st : Stmt} {k : Nat} {sp : Sp} (D : Df K mg x ps st) (S : FnScope N ps (defScope st)) (hl : ∀ vs H Q E, sp vs H Q E → vs.length = ps.length)
    (hb : ∀ (f : Addr) (cdv : Value) (A : Around) (outer : List Env) (s : Shared) (H : Hp) (E : XK), Room k (A.deeper (envOfC x (defScope st) s.heap.objs.size f cdv)) →
      ∃ t, PSs (cxOf CX0 P w K mg base N x (defScope st) f cdv A outer s H E).nox (defBody st) t ∧ ∀ vs Q, sp vs H Q E → t { nx := fun _ H' => Q .non H', rt := Q } (L2.start N vs) H) :
    Fn P w K mg base (k + 1) x ps sp := by
  obtain ⟨f, fd, h1, F, h3⟩ := D
  refine ⟨f, fd, h1, F.kp, h3, F.ok S hl fun cdv A outer s H vs Q E hr h => ?_, F.at_⟩
  obtain ⟨t, ht, hs⟩ := hb f cdv A outer s H E hr
  exact ⟨t, PSs.nox ht, hs vs Q h⟩
end
section
variable {X : Cx}
theorem pe_fn {x : Str} {ps : List Str} {sp : Sp} {k : Nat} {e : Expr} {es : List Expr} {t : TA} {p pos : Pos} (F : Fn X.prog X.w X.K X.mg X.base k x ps sp) (hr : Room k X.A) (ha : PA X (e :: es) t) (hg : Gl X x := by rfl)
    (hdb : (x == ("__debug__" : Str)) = false := by decide) (he : starEach (e :: es) X.env = (false, eval e X.env) :: starEach es X.env := by rfl) (hpl : (backTo pos (starEach es X.env)).any (·.1) = false := by rfl) :
    PE X (.Call (.Name x p) (e :: es) [] pos) (tCall sp [] E0 t) := by
  obtain ⟨f, fd, h1, h2, h3, h4, _⟩ := F
  exact pe_call h4 hr hg h1 h2 h3 .nil pass0 ha hdb he hpl
theorem pe_fn0 {x : Str} {ps : List Str} {sp : Sp} {k : Nat} {p pos : Pos} (F : Fn X.prog X.w X.K X.mg X.base k x ps sp) (hr : Room k X.A) (hg : Gl X x := by rfl)
    (hdb : (x == ("__debug__" : Str)) = false := by decide) : PE X (.Call (.Name x p) [] [] pos) (tCall sp [] E0 tNil) := by
  obtain ⟨f, fd, h1, h2, h3, h4, _⟩ := F
  exact pe_call0 h4 hr hg h1 h2 h3 .nil pass0 hdb
/-- a builtin, a built-in type, called; given that the module does not name it -/
theorem pset {i : Nat} {x : Str} {e : Expr} {te : TE} {pos pos' : Pos} (hN : X.N.Nodup) (he : PE X e te) (hi : X.N[i]? = some x := by rfl) (hx : Loc X.env.scope x := by first | exact Or.inl rfl | exact Or.inr rfl) (hs : swapsWith e (some (.Name x pos')) pos.line X.env = pure false := by rfl)
    (hf : X.fn x = true ∨ X.env.scope.names.lookup x = some .local := by first | exact .inl rfl | exact .inr rfl | assumption) : PS X (.Assign [.Name x pos'] e pos) (tAsg te (gName i)) := ps_set hN hi hx he hs hf
theorem pgn {i : Nat} {x : Str} {pos : Pos} (hN : X.N.Nodup) (hi : X.N[i]? = some x := by rfl) (hx : Loc X.env.scope x := by first | exact Or.inl rfl | exact Or.inr rfl)
    (hf : X.fn x = true ∨ X.env.scope.names.lookup x = some .local := by first | exact .inl rfl | exact .inr rfl | assumption) : PG X (.Name x pos) (gName i) := pg_name hN hi hx hf
/-- isinstance(x, T) for a built-in T -/
theorem pe_tyname {x : Str} {n : String} {pos : Pos} (hm : X.mg x = none) (hg : Gl X x := by rfl) (hv : bootBuiltins x = some (.type n) := by decide +kernel) (hn : x ≠ "__name__" := by decide) (hdb : (x == ("__debug__" : Str)) = false := by decide) : PE X (.Name x pos) (tC (.ty n)) := pe_bltn hg hm hv rfl hn hdb
end
/-! ### what built-ins give -/
section
variable {K : PySem.W.Frag} {d e z : Dt} {ds : List Dt}
/-- the type's name of data -/
def tyD : Dt → Option String
  | .non => some "NoneType"
  | .bl _ => some "bool"
  | .int _ => some "int"
  | .str _ => some "str"
  | .tup _ => some "tuple"
  | .lst _ => some "list"
  | .dic _ _ => some "dict"
  | .dit _ _ => some "dict"
  | _ => none
theorem tyX_l {H : Hp} {a : Addr} {xs : List V} (h : SqL K H a xs) : TyX K H (.ref a) (.type "list") := by
  rcases h with (h | ⟨o, h⟩) | ⟨o, its, n, h1, h2, _⟩
  · exact .base (.lst h)
  · exact .base (.frz h)
  · exact .kList h1 h2
theorem tyX_t {H : Hp} {a : Addr} {xs : List V} (h : SqT K H a xs) : TyX K H (.ref a) (.type "tuple") := by
  rcases h with (h | ⟨o, h⟩) | ⟨o, its, n, h1, h2, _⟩
  · exact .base (.tup h)
  · exact .fTuple h
  · exact .kTuple h1 h2
theorem tyX_of {F H : Hp} {v : V} {n : String} (s : Ex F H) (r : Rp K F d v) (h : tyD d = some n) : TyX K H v (.type n) := by
  cases d <;> simp only [tyD, Option.some.injEq, reduceCtorEq] at h <;> subst h
  · cases r; exact .base .non
  · cases r; exact .base (.bl _)
  · cases r; exact .base (.int _)
  · cases r; exact .base (.str _)
  · obtain ⟨a, vs, rfl, h1, _⟩ := r
    exact tyX_t (ex_t s h1)
  · obtain ⟨a, vs, rfl, h1, _⟩ := r
    exact tyX_l (ex_l s h1)
  · obtain ⟨a, vs, rfl, h1, _⟩ := r
    exact .base (.dK (s _ _ h1))
  · obtain ⟨a, vs, rfl, h1, _⟩ := r
    exact .base (.dT (s _ _ h1))
theorem rl_isi {n t : String} {b : Bool} (h : tyD d = some n) (hb : kitB n t = some b) : RLd K (rIsi K) [d, .ty t] (.bl b) := fun F H vs s r Q q => by
  obtain ⟨v, r1, rfl, e1, v2, r2, rfl, e2, e3⟩ := r
  cases e2; cases e3
  exact ⟨v, .ty t, .type n, .type t, b, rfl, .ty t, tyX_of s e1 h, kit_ty hb, q _ F H (Wk.refl s) rfl⟩
theorem rl_lenS {w : Str} (h : w.length ≤ 100000) : RLd K (fun xs H Q => ∃ z, xs = [.str z] ∧ z.length ≤ sizeLine ∧ Q (.int z.length) H) [.str w] (.int w.length) := fun F H vs s r Q q => by
  obtain ⟨v, r1, rfl, e1, e2⟩ := r
  cases e1; cases e2
  exact ⟨w, rfl, sz_of h, q _ F H (Wk.refl s) rfl⟩
theorem rl_len : RLd K (rLenS K) [.lst ds] (.int ds.length) := fun F H vs s r Q q => by
  obtain ⟨v, r1, rfl, ⟨a, us, rfl, h1, h2⟩, e2⟩ := r
  cases e2
  refine ⟨a, us, rfl, .inl (ex_l s h1), ?_⟩
  rw [← h2.length]
  exact q _ F H (Wk.refl s) rfl
theorem rl_lenT : RLd K (rLenS K) [.tup ds] (.int ds.length) := fun F H vs s r Q q => by
  obtain ⟨v, r1, rfl, ⟨a, us, rfl, h1, h2⟩, e2⟩ := r
  cases e2
  refine ⟨a, us, rfl, .inr (ex_t s h1), ?_⟩
  rw [← h2.length]
  exact q _ F H (Wk.refl s) rfl
theorem rn_list : RLn K (rListS K) [.lst ds] ds := fun F H vs s r Q q => by
  obtain ⟨v, r1, rfl, ⟨a, us, rfl, h1, h2⟩, e2⟩ := r
  cases e2
  exact ⟨a, us, rfl, .inl (ex_l s h1), fun l hl => q l us F _ (Wk.own s _ hl) hl (none_sub s hl) upd_same h2⟩
theorem rn_listT : RLn K (rListS K) [.tup ds] ds := fun F H vs s r Q q => by
  obtain ⟨v, r1, rfl, ⟨a, us, rfl, h1, h2⟩, e2⟩ := r
  cases e2
  exact ⟨a, us, rfl, .inr (ex_t s h1), fun l hl => q l us F _ (Wk.own s _ hl) hl (none_sub s hl) upd_same h2⟩
def rTupS (K : PySem.W.Frag) : List V → Hp → VK → Prop := fun xs H Q => ∃ p ys, xs = [.ref p] ∧ ((SqL K H p ys ∧ ∀ l, H l = none → Q (.ref l) (upd H l (.tup ys))) ∨ (SqT K H p ys ∧ Q (.ref p) H))
theorem rl_tup : RLd K (rTupS K) [.lst ds] (.tup ds) := fun F H vs s r Q q => by
  obtain ⟨v, r1, rfl, ⟨a, us, rfl, h1, h2⟩, e2⟩ := r
  cases e2
  exact ⟨a, us, rfl, .inl ⟨ex_l s h1, fun l hl => q _ (upd F l (.tup us)) _ (Wk.new s _ hl) ⟨l, us, rfl, SqT.of upd_same, h2.mono (Ex.new (none_sub s hl))⟩⟩⟩
theorem rl_tupT : RLd K (rTupS K) [.tup ds] (.tup ds) := fun F H vs s r Q q => by
  obtain ⟨v, r1, rfl, ⟨a, us, rfl, h1, h2⟩, e2⟩ := r
  cases e2
  exact ⟨a, us, rfl, .inr ⟨ex_t s h1, q _ F H (Wk.refl s) ⟨a, us, rfl, h1, h2⟩⟩⟩
def rInt1 : List V → Hp → VK → Prop := fun xs H Q => (∃ i, xs = [.int i] ∧ Q (.int i) H) ∨ ∃ k, xs = [.bl k] ∧ Q (.int (if k then 1 else 0)) H
theorem rl_int {i : Int} : RLd K rInt1 [.int i] (.int i) := fun F H vs s r Q q => by
  obtain ⟨v, r1, rfl, e1, e2⟩ := r
  cases e1; cases e2
  exact .inl ⟨i, rfl, q _ F H (Wk.refl s) rfl⟩
def rMin2 : List V → Hp → VK → Prop := fun xs H Q => ∃ i j, xs = [.int i, .int j] ∧ Q (.int (if j < i then j else i)) H
theorem rl_max2 {i j : Int} : RLd K rMax2 [.int i, .int j] (.int (if j > i then j else i)) := fun F H vs s r Q q => by
  obtain ⟨v, r1, rfl, e1, v2, r2, rfl, e2, e3⟩ := r
  cases e1; cases e2; cases e3
  exact ⟨i, j, rfl, q _ F H (Wk.refl s) rfl⟩
theorem rl_min2 {i j : Int} : RLd K rMin2 [.int i, .int j] (.int (if j < i then j else i)) := fun F H vs s r Q q => by
  obtain ⟨v, r1, rfl, e1, v2, r2, rfl, e2, e3⟩ := r
  cases e1; cases e2; cases e3
  exact ⟨i, j, rfl, q _ F H (Wk.refl s) rfl⟩
theorem rl_all {bs : List Bool} : RLd K (rAll K) [.lst (bs.map .bl)] (.bl (bs.all id)) := fun F H vs s r Q q => by
  obtain ⟨v, r1, rfl, ⟨a, us, rfl, h1, h2⟩, e2⟩ := r
  cases e2
  cases h2.bls
  exact ⟨a, bs, rfl, ex_l s h1, q _ F H (Wk.refl s) rfl⟩
theorem rl_any {bs : List Bool} : RLd K (rAny K) [.lst (bs.map .bl)] (.bl (bs.any id)) := fun F H vs s r Q q => by
  obtain ⟨v, r1, rfl, ⟨a, us, rfl, h1, h2⟩, e2⟩ := r
  cases e2
  cases h2.bls
  exact ⟨a, bs, rfl, ex_l s h1, q _ F H (Wk.refl s) rfl⟩
end
section
variable {X : Cx}
theorem cr_int : CallR X (.type "int") rInt1 := call_int1
theorem cr_min2 (hc : X.calm = true) : CallR X (.builtin "min") rMin2 := call_min2 hc
theorem cr_max2 (hc : X.calm = true) : CallR X (.builtin "max") rMax2 := call_max2 hc
theorem cr_list : CallR X (.type "list") (rListS X.K) := call_list_of
theorem cr_tuple : CallR X (.type "tuple") (rTupS X.K) := call_tuple_of
theorem cr_len : CallR X (.builtin "len") (rLenS X.K) := call_len_seq
end
end Pw
namespace Pw
open PySem PySem.Spec PyProof.Rows L2 Evl
section
variable {X : Cx}
theorem pe_globI {x : Str} {i : Int} {pos : Pos} (h : ∃ t, X.mg x = some (.int i t)) (hg : Gl X x := by rfl) (hd : (x == ("__debug__" : Str)) = false := by decide) : PE X (.Name x pos) (tC (.int i)) := by
  obtain ⟨t, h⟩ := h
  exact pe_glob hg h ⟨t, rfl⟩ hd
theorem pe_globS {x : Str} {i : Str} {pos : Pos} (h : ∃ t, X.mg x = some (.str i t)) (hg : Gl X x := by rfl) (hd : (x == ("__debug__" : Str)) = false := by decide) : PE X (.Name x pos) (tC (.str i)) := by
  obtain ⟨t, h⟩ := h
  exact pe_glob hg h ⟨t, rfl⟩ hd
end
section
variable {K : PySem.W.Frag} {env : En} {te : TE} {tl th : TO} {d : Dt} {ds : List Dt}
theorem oo_none : Oo K tNoPart env none := fun F0 H0 F H σ S Q q => q F H (Wk.refl S.sub)
theorem oo_some {i : Int} (h : Ee K te env (.int i)) : Oo K (tPart te) env (some i) := fun F0 H0 F H σ S Q q => h F0 H0 F H σ S _ fun v F1 H1 w r => ⟨i, r, q F1 H1 w⟩
theorem ee_slS {x : Str} {lo hi : Option Int} (h : Ee K te env (.str x)) (h1 : Oo K tl env lo) (h2 : Oo K th env hi) (hl : x.length ≤ 100000) : Ee K (tSl rSlS te tl th) env (.str (cutS x lo hi)) := fun F0 H0 F H σ S Q q =>
  h F0 H0 F H σ S _ fun v F1 H1 w r => h1 F0 H0 F1 H1 σ (S.wk w) _ fun F2 H2 w2 => h2 F0 H0 F2 H2 σ ((S.wk w).wk w2) _ fun F3 H3 w3 => ⟨x, r, sz_of hl, q _ F3 H3 ((w.trans w2).trans w3) rfl⟩
theorem en_slL {xs : List Dt} {lo hi : Option Int} (h : Ee K te env (.lst xs)) (h1 : Oo K tl env lo) (h2 : Oo K th env hi) : EnL K (tSl (rSlL K) te tl th) env ((xs.drop (HT.sIx xs.length 0 lo)).take (HT.sIx xs.length xs.length hi - HT.sIx xs.length 0 lo)) := fun F0 H0 F H σ S Q q =>
  h F0 H0 F H σ S _ fun v F1 H1 w r => h1 F0 H0 F1 H1 σ (S.wk w) _ fun F2 H2 w2 => h2 F0 H0 F2 H2 σ ((S.wk w).wk w2) _ fun F3 H3 w3 => by
    obtain ⟨a, vs, rfl, g1, g2⟩ := r
    refine ⟨a, vs, rfl, ex_l (w.s.trans (w2.h.trans w3.h)) g1, fun p hp => q p _ F3 _ (((w.trans w2).trans w3).trans (Wk.own w3.s _ hp)) (fresh_back ((w.trans w2).trans w3).h hp) (none_sub w3.s hp) upd_same ?_⟩
    unfold cutV
    rw [← g2.length]
    exact RpL.take _ (RpL.drop _ (g2.mono (w2.f.trans w3.f)))
end
end Pw
namespace Pw
open PySem PySem.Spec PyProof.Rows L2 Evl
def isI : Dt → Bool
  | .int _ => true
  | _ => false
def isB : Dt → Bool
  | .bl _ => true
  | _ => false
def isS : Dt → Bool
  | .str _ => true
  | _ => false
def isTp : Dt → Bool
  | .tup _ => true
  | _ => false
def isL : Dt → Bool
  | .lst _ => true
  | _ => false
section
variable {K : PySem.W.Frag} {d : Dt}
theorem rl_isInt (h : (tyD d).isSome = true) : RLd K (rIsi K) [d, .ty "int"] (.bl (isI d || isB d)) := by
  cases d
  · exact rl_isi rfl (show kitB "NoneType" "int" = some false by decide +kernel)
  · exact rl_isi rfl (show kitB "bool" "int" = some true by decide +kernel)
  · exact rl_isi rfl (show kitB "int" "int" = some true by decide +kernel)
  · exact rl_isi rfl (show kitB "str" "int" = some false by decide +kernel)
  · exact rl_isi rfl (show kitB "tuple" "int" = some false by decide +kernel)
  · exact rl_isi rfl (show kitB "list" "int" = some false by decide +kernel)
  · exact rl_isi rfl (show kitB "dict" "int" = some false by decide +kernel)
  · exact rl_isi rfl (show kitB "dict" "int" = some false by decide +kernel)
  all_goals cases h
theorem rl_isBool (h : (tyD d).isSome = true) : RLd K (rIsi K) [d, .ty "bool"] (.bl (isB d)) := by
  cases d
  · exact rl_isi rfl (show kitB "NoneType" "bool" = some false by decide +kernel)
  · exact rl_isi rfl (show kitB "bool" "bool" = some true by decide +kernel)
  · exact rl_isi rfl (show kitB "int" "bool" = some false by decide +kernel)
  · exact rl_isi rfl (show kitB "str" "bool" = some false by decide +kernel)
  · exact rl_isi rfl (show kitB "tuple" "bool" = some false by decide +kernel)
  · exact rl_isi rfl (show kitB "list" "bool" = some false by decide +kernel)
  · exact rl_isi rfl (show kitB "dict" "bool" = some false by decide +kernel)
  · exact rl_isi rfl (show kitB "dict" "bool" = some false by decide +kernel)
  all_goals cases h
theorem rl_isStr (h : (tyD d).isSome = true) : RLd K (rIsi K) [d, .ty "str"] (.bl (isS d)) := by
  cases d
  · exact rl_isi rfl (show kitB "NoneType" "str" = some false by decide +kernel)
  · exact rl_isi rfl (show kitB "bool" "str" = some false by decide +kernel)
  · exact rl_isi rfl (show kitB "int" "str" = some false by decide +kernel)
  · exact rl_isi rfl (show kitB "str" "str" = some true by decide +kernel)
  · exact rl_isi rfl (show kitB "tuple" "str" = some false by decide +kernel)
  · exact rl_isi rfl (show kitB "list" "str" = some false by decide +kernel)
  · exact rl_isi rfl (show kitB "dict" "str" = some false by decide +kernel)
  · exact rl_isi rfl (show kitB "dict" "str" = some false by decide +kernel)
  all_goals cases h
theorem rl_isTup (h : (tyD d).isSome = true) : RLd K (rIsi K) [d, .ty "tuple"] (.bl (isTp d)) := by
  cases d
  · exact rl_isi rfl (show kitB "NoneType" "tuple" = some false by decide +kernel)
  · exact rl_isi rfl (show kitB "bool" "tuple" = some false by decide +kernel)
  · exact rl_isi rfl (show kitB "int" "tuple" = some false by decide +kernel)
  · exact rl_isi rfl (show kitB "str" "tuple" = some false by decide +kernel)
  · exact rl_isi rfl (show kitB "tuple" "tuple" = some true by decide +kernel)
  · exact rl_isi rfl (show kitB "list" "tuple" = some false by decide +kernel)
  · exact rl_isi rfl (show kitB "dict" "tuple" = some false by decide +kernel)
  · exact rl_isi rfl (show kitB "dict" "tuple" = some false by decide +kernel)
  all_goals cases h
theorem rl_isList (h : (tyD d).isSome = true) : RLd K (rIsi K) [d, .ty "list"] (.bl (isL d)) := by
  cases d
  · exact rl_isi rfl (show kitB "NoneType" "list" = some false by decide +kernel)
  · exact rl_isi rfl (show kitB "bool" "list" = some false by decide +kernel)
  · exact rl_isi rfl (show kitB "int" "list" = some false by decide +kernel)
  · exact rl_isi rfl (show kitB "str" "list" = some false by decide +kernel)
  · exact rl_isi rfl (show kitB "tuple" "list" = some false by decide +kernel)
  · exact rl_isi rfl (show kitB "list" "list" = some true by decide +kernel)
  · exact rl_isi rfl (show kitB "dict" "list" = some false by decide +kernel)
  · exact rl_isi rfl (show kitB "dict" "list" = some false by decide +kernel)
  all_goals cases h
end
end Pw
namespace Pw
open PySem PySem.Spec PyProof.Rows L2 Evl
section
variable {K : PySem.W.Frag} {env E : En} {g : TG} {tb : TS} {wi : TI} {ds : List Dt}
theorem find_split {α : Type} {p : α → Bool} : ∀ {l : List α} {d : α}, l.find? p = some d → ∃ i : Nat, l[i]? = some d ∧ p d = true ∧ ∀ (j : Nat) x, j < i → l[j]? = some x → p x = false
  | a :: l, d, h => by
    rw [List.find?_cons] at h
    cases q : p a with
    | true =>
      rw [q] at h
      cases h
      exact ⟨0, rfl, q, fun j x hj _ => by omega⟩
    | false =>
      rw [q] at h
      obtain ⟨i, h1, h2, h3⟩ := find_split h
      refine ⟨i + 1, by simpa using h1, h2, fun j x hj hx => ?_⟩
      cases j with
      | zero =>
        simp at hx
        rw [← hx]
        exact q
      | succ j => exact h3 j x (by omega) (by simpa using hx)
/-- a loop that searches: at the first d with p d it returns z d -/
theorem se_find (p : Dt → Bool) (z : Dt → Dt) (hI : Ie K wi env ds) (E : En) (h0 : Le env E) (hs : ∀ d ∈ ds, ∃ e1, Ge K g d E e1 ∧ (p d = true → Se K tb e1 (.rt (z d))) ∧ (p d = false → Se K tb e1 (.nc E))) :
    Se K (tFor wi g tb) env (match ds.find? p with | some d => .rt (z d) | none => .nx E) := by
  cases h : ds.find? p with
  | none =>
    have hn : ∀ d ∈ ds, p d = false := fun d hd => by
      have := List.find?_eq_none.mp h d hd
      simpa using this
    refine se_for hI (fun _ => E) ds.length (Nat.le_refl _) h0 (fun i d hi hd => ?_) (.inl ⟨rfl, rfl⟩)
    have hm := List.mem_of_getElem? hd
    obtain ⟨e1, h1, _, h3⟩ := hs d hm
    exact ⟨e1, h1, h3 (hn d hm)⟩
  | some d =>
    obtain ⟨i, h1, h2, h3⟩ := find_split h
    have hi : i < ds.length := (List.getElem?_eq_some_iff.mp h1).1
    refine se_for hI (fun _ => E) i (Nat.le_of_lt hi) h0 (fun j x hj hx => ?_) (.inr ?_)
    · obtain ⟨e1, g1, _, g3⟩ := hs x (List.mem_of_getElem? hx)
      exact ⟨e1, g1, g3 (h3 j x hj hx)⟩
    · obtain ⟨e1, g1, g2, _⟩ := hs d (List.mem_of_getElem? h1)
      exact ⟨d, e1, h1, g1, .inl ⟨z d, rfl, g2 h2⟩⟩
theorem itemD {α : Type} {l : List α} {i : Nat} (d : α) (h : i < l.length) : l[i]? = some (l.getD i d) := by
  rw [List.getD_eq_getElem?_getD, List.getElem?_eq_getElem h]
  rfl
/-- an item of a list at a remainder -/
theorem r2_ixM {i : Int} {n : Int} (h0 : 0 < n) (hn : n ≤ (ds.length : Int)) : R2d K (rIxL K) (.lst ds) (.int (i % n)) (ds.getD (i % n).toNat .non) := by
  have h1 := Int.emod_nonneg i (show n ≠ 0 by omega)
  have h2 := Int.emod_lt_of_pos i h0
  exact r2_ixL (ixN_at h1 (by omega)) (itemD _ (by omega))
end
end Pw

set_option maxHeartbeats 1000000
namespace Pw
open PySem PySem.Spec PyProof.Rows L2 Evl
/-! ### exceptions of own classes, held as values -/
/-- what the written part says of such a class -/
structure ExV (K : PySem.W.Frag) (C : Addr) : Prop where
  cl : (PySem.W.clsIn K C).isSome = true
  ga : PySem.W.findIn K (.ref C) "__getattribute__" = some (some (.builtin "BaseException.__getattribute__"))
  gt : PySem.W.findIn K (.ref C) "__getattr__" = some none
  sb : PySem.W.subIn K (.ref C) (.type "BaseException") = some true
  ca : PySem.W.findIn K (.ref C) "__class__" = some (some (.builtin "object.__class__"))
  cg : PySem.W.specialIn K (.builtin "object.__class__") "__get__" = some (some (.builtin "getset_descriptor.__get__"))
  ct : PySem.W.takesIn K (.builtin "object.__class__") = some true
  ob : PySem.W.mroIn K C (.type "object") = some true
  hd : PySem.W.hasDictIn K C = true
/-- at a stands an exception of C, its dict as d says -/
def XAt (H : Hp) (a C : Addr) (d : Option Addr) : Prop := H a = some (exo a C d) ∧ (d = none ∨ ∃ dx fs, d = some dx ∧ H dx = some (exd dx fs))
section
variable {X : Cx} {pins : List (Addr × Obj)} {σ : L2.St} {H : Hp} {s : Shared}
theorem xat_inst {a C : Addr} {d : Option Addr} (I : Inv X pins σ H s) (h : XAt H a C d) : ∃ ox od, PySem.W.InstAt s.heap a ox C od := by
  obtain ⟨h1, h2⟩ := h
  obtain ⟨t1, ho⟩ := exo_at I.hok h1
  rcases h2 with rfl | ⟨dx, fs, rfl, h2⟩
  · exact ⟨_, none, ho, rfl, rfl, trivial⟩
  · obtain ⟨mA, hns, _⟩ := exd_at I.hok h2
    obtain ⟨od, hod, _⟩ := lookIn_ns hns
    exact ⟨_, some od, ho, rfl, rfl, hod⟩
/-- isinstance(e, c), e an exception held as a value -/
def rIsx (K : PySem.W.Frag) : List V → Hp → VK → Prop := fun xs H Q => ∃ (a C : Addr) (d : Option Addr) (c : V) (u : Value) (b : Bool), xs = [.ref a, c] ∧ XAt H a C d ∧ ClsV c u ∧ ExV K C ∧ PySem.W.kitOne K (.ref C) u = some b ∧ Q (.bl b) H
theorem cr_isx : CallR X (.builtin "isinstance") (rIsx X.K) := fun pins s σ H xs us Q I r h => by
  obtain ⟨a, C, d, c, u, b, rfl, hx, k, E, e, q⟩ := h
  obtain ⟨u1, u2, rfl, r1, r2⟩ := vals2 r
  have e2 := k.eq r2
  subst e2
  cases (show u1 = Value.ref a from r1)
  obtain ⟨ox, od, J⟩ := xat_inst I hx
  exact PySem.W.kia_one (PySem.W.kitx_exc E.cl E.ga E.gt E.sb E.ca E.cg E.ct E.ob) I.kIn J e (fun z => nomatch z) fun tk => ⟨.bl b, H, I.tok tk, rfl, q⟩
/-- e.n -/
def tXat (K : PySem.W.Frag) (n : Str) (te : TE) : TE := fun σ H Q => te σ H fun x H1 => ∃ (a C dx : Addr) (fs : List (Str × V)) (v : V), x = .ref a ∧ H1 a = some (exo a C (some dx)) ∧ H1 dx = some (exd dx fs) ∧ ExV K C ∧ PySem.W.findIn K (.ref C) n = some none ∧ fs.lookup n = some v ∧ Q v H1
theorem pe_xat {e : Expr} {te : TE} {n : Str} {pos : Pos} (he : PE X e te) (hb : attributeBase e n X.env (eval e X.env) = eval e X.env := by rfl) : PE X (.Attribute e n pos) (tXat X.K n te) := ⟨fun pins s σ H Q I h => by
  refine attr_of hb (thn (he.run pins s σ H _ I h) fun u s1 hh => ?_)
  obtain ⟨x, H1, I1, rx, a, C, dx, fs, v, ex, ea, ed, E, hno, l, q⟩ := hh
  subst ex
  cases (show u = Value.ref a from rx)
  obtain ⟨t1, ho⟩ := exo_at I1.hok ea
  obtain ⟨mA, hns, hr⟩ := exd_at I1.hok ed
  obtain ⟨od, hod, hl⟩ := lookIn_ns hns
  obtain ⟨u, hu, ru⟩ := RelO.some_of (v := v) (o := mA n) (by rw [← l]; exact hr n)
  have J : PySem.W.InstAt s1.heap a _ C (some od) := ⟨ho, rfl, rfl, hod⟩
  exact HandSPX.exc_get I1.kIn J E.ga E.gt E.sb (PySem.W.findObj_own E.hd hno rfl (by rw [hl, hu])) (handed_of ru) ⟨v, H1, I1.tok _, ru, q⟩⟩
/-- C(e, ..), by C's own __init__ -/
def tXmk (C : Addr) (sp : Sp) (ta : TA) : TE := fun σ H Q => ta σ H fun vs H1 => vs.length ≤ 1000 ∧ ∀ a, H1 a = none → sp (.ref a :: (vs ++ [])) (upd H1 a (exo a C none)) (fun v H2 => v = .non ∧ Q (.ref a) H2) E0
theorem pe_xmk {e : Expr} {es : List Expr} {ta : TA} {p pos : Pos} {x : Str} {C fI : Addr} {k : Nat} {fd : FuncData} {ps : List Str} {sp : Sp} (T : OexC X.K C) (iC : PySem.W.findIn X.K (.ref C) "__init__" = some (some (.ref fI))) (tI : PySem.W.typeIn X.K (.ref fI) = some (.type "function"))
    (F1 : FnOk X.prog X.w X.K X.mg X.base CX0 k fI fd ps sp) (hr : Room (k + 1) X.A) (hb : Binds X.K fd ps []) (hm : X.mg x = some (.ref C)) (ha : PA X (e :: es) ta) (hg : Gl X x := by rfl)
    (hdb : (x == ("__debug__" : Str)) = false := by decide) (he : starEach (e :: es) X.env = (false, eval e X.env) :: starEach es X.env := by rfl) (hpl : (backTo pos (starEach es X.env)).any (·.1) = false := by rfl) :
    PE X (.Call (.Name x p) (e :: es) [] pos) (tXmk C sp ta) := ⟨fun pins s σ H Q I h => by
  obtain ⟨nm, q, N, bs, bm, sn, sub, ab, col, dd, k0, k1, k2, k3, k5, hC, hbm⟩ := T.cls
  refine wpAny_Call_Name_kw (ld_glob I hg hm (PySem.W.callWith_K (h₀ := X.base) I.ok.mod.kin T.kC (thn (ha.run pos pins s σ H _ I h) fun us s1 ⟨vs, H1, I1, r1, hz, q1⟩ => ⟨I1.kIn, ?_⟩) he hpl) hdb)
  show wpAny _ _ (call (.ref C) us) _ _ _
  obtain ⟨hp, g, dr, tk, os⟩ := s1
  have hn : H1 (hp.objs.size + 1) = none := I1.hok.fresh (Nat.le_succ _)
  have hq := q1 (hp.objs.size + 1) hn
  have hget : ((hp.push (PySem.W.kdv_tup us)).push (PySem.HandSPX.excO C hp.objs.size)).get? (hp.objs.size + 1) = some (PySem.HandSPX.excO C hp.objs.size) := by heap_get
  have I2 : Inv X pins σ (upd H1 (hp.objs.size + 1) (exo (hp.objs.size + 1) C none)) ⟨(hp.push (PySem.W.kdv_tup us)).push (PySem.HandSPX.excO C hp.objs.size), g, dr, tk, os⟩ := I1.laid (t' := tk) (a := hp.objs.size + 1) (o := exo (hp.objs.size + 1) C none) (h' := (hp.push (PySem.W.kdv_tup us)).push (PySem.HandSPX.excO C hp.objs.size)) (fun b o e => Heap.get?_push_of_some _ (Heap.get?_push_of_some _ e)) (Nat.le_succ _) (exo_ok hget)
  have r2 : Vals (V.ref (hp.objs.size + 1) :: (vs ++ [])) (Value.ref (hp.objs.size + 1) :: (us ++ [])) := .cons rfl (r1.append .nil)
  have hl : (Value.ref (hp.objs.size + 1) :: us ++ []).length = ps.length := (F1.len _ _ _ _ hq ▸ r2.length).symm
  have hus : us.length ≤ sizeLine := by
    rw [← Paired.length r1, sizeLine_eq]
    omega
  refine wpAny_call (PySem.HandSPX.call_own F.excBase_ValueError (fun Y => PySem.HandSPX.refsVE_contains Y bm hbm) (I1.kIn _ _ hC) (PySem.W.looks_findIn I1.kIn iC) (fun self => PySem.W.bind_fn I1.kIn self tI) hus ?_)
  refine codeAny_mono (F1.run _ X.stack _ _ ⟨Value.ref (hp.objs.size + 1) :: us, []⟩ (Value.ref (hp.objs.size + 1) :: (us ++ [])) _ _ E0 (hr.make C us []) (I2.env0.make C us []) (by have z := hb _ (Value.ref (hp.objs.size + 1) :: us) I2.kIn hl; rw [List.cons_append] at z; exact z) r2 hq) fun r s' hq' => ?_
  cases r with
  | error er => exact hq'.elim
  | ok fl =>
    cases fl with
    | ret u =>
      obtain ⟨v, H2, J, rv, ev, q2⟩ := I2.after hq'
      subst ev
      exact ⟨rv, .ref (hp.objs.size + 1), H2, J, rfl, q2⟩
    | next => exact hq'.elim
    | brk => exact hq'.elim
    | cont => exact hq'.elim⟩
/-- C() of a class without own __init__ -/
def tXmk0 (C : Addr) : TE := fun _ H Q => ∀ a, H a = none → Q (.ref a) (upd H a (exo a C none))
theorem pe_xmk0 {x : Str} {C : Addr} {bmB : List Value} {B newId initId : String} {p pos : Pos} (F : ExcBaseFacts B newId initId bmB) (q : PySem.W.excIn X.K C bmB newId = true) (kC : PySem.W.keepIn X.K (.ref C) = true) (hm : X.mg x = some (.ref C)) (hg : Gl X x := by rfl)
    (hdb : (x == ("__debug__" : Str)) = false := by decide) : PE X (.Call (.Name x p) [] [] pos) (tXmk0 C) := ⟨fun pins s σ H Q I h => by
  refine wpAny_Call_Name_kw (ld_glob I hg hm (PySem.W.callWith_K0 I.kIn kC ?_) hdb)
  show wpAny _ _ (call (.ref C) []) _ _ _
  obtain ⟨bm, N, nm, qn, bs, hdct, sn, sub, ab, col, dd, k0, k1, k2, k3, k5, mN, hC, hN, hni, T⟩ := exc_obj I.kIn q
  refine wpAny_call_exc_subT F T hC hN hni (fun h' a hmk => ?_) (by rw [sizeLine_eq]; exact Nat.zero_le _)
  have hn : H a = none := I.hok.gone hmk.new
  obtain ⟨t, ht, _, _⟩ := hmk.there
  exact ⟨.ref a, upd H a (exo a C none), I.laidN hmk.keeps hmk.new hn (exo_ok ht), rfl, h a hn⟩⟩
end
end Pw

set_option maxHeartbeats 1000000
namespace Pw
open PySem PySem.Spec PyProof.Rows L2 Evl
/-- the promise of an __init__ that stores its two arguments -/
def spX2 (C : Addr) (f1 f2 : Str) : Sp := fun vs H Q _ => ∃ (a : Addr) (v1 v2 : V), vs = [.ref a, v1, v2] ∧ H a = some (exo a C none) ∧
  ∀ dx H', H dx = none → dx ≠ a → H' a = some (exo a C (some dx)) → H' dx = some (exd dx [(f2, v2), (f1, v1)]) → (∀ b, b ≠ a → b ≠ dx → H' b = H b) → Q .non H'
section
variable {P : Program} {w : World} {K : PySem.W.Frag} {mg : Str → Option Value} {base : Heap}
/-- the body: self.f1 = .., self.f2 = .. -/
theorem init2 {C fI : Addr} {fd : FuncData} {qual f1 f2 g1 g2 : Str} {params : Arguments} {body : List Stmt} {scope : Scope} (F : FunD K "__init__" qual params body scope [] [] fI fd) (S : FnScope [("self" : Str), g1, g2] [("self" : Str), g1, g2] scope)
    (T : OexC K C) (n1 : PySem.W.findIn K (.ref C) f1 = some none) (n2 : PySem.W.findIn K (.ref C) f2 = some none)
    (hd : ∀ (cdv : Value) (A : Around) (outer : List Env) (s : Shared) (H : Hp) (E : XK), PSs (cxOf CX0 P w K mg base [("self" : Str), g1, g2] qual scope fI cdv A outer s H E) body (tSeq (tOst K f1 (tVar 0) (tVar 1)) (tOst K f2 (tVar 0) (tVar 2)))) : FnOk P w K mg base CX0 1 fI fd [("self" : Str), g1, g2] (spX2 C f1 f2) := by
  refine F.ok S (fun vs H Q E h => ?_) fun cdv A outer s H vs Q E hr h => ⟨_, hd cdv A outer s H E, ?_⟩
  · obtain ⟨a, v1, v2, rfl, _⟩ := h
    rfl
  · obtain ⟨a, v1, v2, rfl, ha, q⟩ := h
    refine ⟨v1, rfl, .ref a, rfl, a, C, rfl, T, n1, .inl ⟨ha, fun dx hx ne => ?_⟩⟩
    refine ⟨v2, rfl, .ref a, rfl, a, C, rfl, T, n2, .inr ⟨dx, [(f1, v1)], upd_same, ?_, (by show 1 ≤ 900; decide), ?_⟩⟩
    · rw [upd_ne ne, upd_same]
    · refine q dx _ hx ne ?_ upd_same fun b h1 h2 => ?_
      · rw [upd_ne ne.symm, upd_same]
      · rw [upd_ne h2, upd_ne h1, upd_ne h2]
end
section
variable {K : PySem.W.Frag} {env : En} {te tb : TE} {ta : TA} {d e z : Dt} {ds : List Dt}
theorem ee_xmk {C : Addr} {f1 f2 : Str} (h : EeA K ta env [d, e]) : Ee K (tXmk C (spX2 C f1 f2) ta) env (.exc C [f2, f1] [e, d]) := fun F0 H0 F H σ S Q q =>
  h F0 H0 F H σ S _ fun vs F1 H1 w r => by
    obtain ⟨v1, r1, rfl, q1, v2, r2, rfl, q2, e3⟩ := r
    cases e3
    refine ⟨by show 2 ≤ 1000; decide, fun a ha => ⟨a, v1, v2, rfl, upd_same, fun dx H' hx ne h1 h2 hk => ⟨rfl, ?_⟩⟩⟩
    have hx1 : H1 dx = none := by
      rw [upd_ne ne] at hx
      exact hx
    have nF : ∀ b, H1 b = none → F1 b = none := fun b hb => none_sub w.s hb
    have eF : Ex F1 (L2.upd (L2.upd F1 a (exo a C (some dx))) dx (exd dx [(f2, v2), (f1, v1)])) := fun b o hb => by
      rw [upd_ne (ne_of_none hb (nF dx hx1)), upd_ne (ne_of_none hb (nF a ha))]
      exact hb
    refine q (.ref a) (L2.upd (L2.upd F1 a (exo a C (some dx))) dx (exd dx [(f2, v2), (f1, v1)])) H' (w.trans ⟨eF, fun b o hb => ?_, fun b o hb => ?_, fun b o hb n => ?_⟩) ?_
    · rw [hk b (ne_of_none hb ha) (ne_of_none hb hx1), upd_ne (ne_of_none hb ha)]
      exact hb
    · by_cases z1 : b = dx
      · subst z1
        rw [upd_same] at hb
        rw [h2, ← hb]
      · rw [upd_ne z1] at hb
        by_cases z2 : b = a
        · subst z2
          rw [upd_same] at hb
          rw [h1, ← hb]
        · rw [upd_ne z2] at hb
          rw [hk b z2 z1, upd_ne z2]
          exact w.s b o hb
    · rw [upd_ne (ne_of_none hb hx1), upd_ne (ne_of_none hb ha)]
      exact n
    · refine ⟨a, [v2, v1], rfl, rfl, ⟨v2, [v1], rfl, q2.mono eF, v1, [], rfl, q1.mono eF, rfl⟩, .inr ⟨dx, ?_, upd_same⟩⟩
      rw [upd_ne ne.symm, upd_same]
theorem ee_xmk0 {C : Addr} : Ee K (tXmk0 C) env (.exc C [] []) := fun F0 H0 F H σ S Q q a ha =>
  q (.ref a) (L2.upd F a (exo a C none)) _ (Wk.new S.sub _ ha) ⟨a, [], rfl, rfl, rfl, .inl ⟨rfl, upd_same⟩⟩
theorem xat_of {F H : Hp} {C : Addr} {fs : List Str} {v : V} (s : Ex F H) (r : Rp K F (.exc C fs ds) v) : ∃ a d, v = .ref a ∧ XAt H a C d := by
  obtain ⟨a, vs, rfl, _, _, h⟩ := r
  rcases h with ⟨_, h⟩ | ⟨dx, h1, h2⟩
  · exact ⟨a, none, rfl, s _ _ h, .inl rfl⟩
  · exact ⟨a, some dx, rfl, s _ _ h1, .inr ⟨dx, _, rfl, s _ _ h2⟩⟩
theorem rl_isx {C D : Addr} {fs : List Str} {b : Bool} (E : ExV K C) (h : PySem.W.kitOne K (.ref C) (.ref D) = some b) : RLd K (rIsx K) [.exc C fs ds, .adr D] (.bl b) := fun F H vs s r Q q => by
  obtain ⟨v, r1, rfl, e1, v2, r2, rfl, e2, e3⟩ := r
  cases e2; cases e3
  obtain ⟨a, d, rfl, hx⟩ := xat_of s e1
  exact ⟨a, C, d, .ref D, .ref D, b, rfl, hx, .own D, E, h, q _ F H (Wk.refl s) rfl⟩
theorem rl_isxT {C : Addr} {n : String} {fs : List Str} {b : Bool} (E : ExV K C) (h : PySem.W.kitOne K (.ref C) (.type n) = some b) : RLd K (rIsx K) [.exc C fs ds, .ty n] (.bl b) := fun F H vs s r Q q => by
  obtain ⟨v, r1, rfl, e1, v2, r2, rfl, e2, e3⟩ := r
  cases e2; cases e3
  obtain ⟨a, d, rfl, hx⟩ := xat_of s e1
  exact ⟨a, C, d, .ty n, .type n, b, rfl, hx, .ty n, E, h, q _ F H (Wk.refl s) rfl⟩
theorem zip_lookup {K : PySem.W.Frag} {F : Hp} {n : Str} : ∀ {fs : List Str} {ds : List Dt} {vs : List V} {d : Dt}, RpL K F ds vs → (fs.zip ds).lookup n = some d → ∃ v, (fs.zip vs).lookup n = some v ∧ Rp K F d v
  | [], ds, vs, d, _, h => by simp at h
  | f :: fs, [], vs, d, _, h => by simp at h
  | f :: fs, e :: ds, vs, d, r, h => by
    obtain ⟨v, r', rfl, q1, q2⟩ := r
    rw [List.zip_cons_cons, List.lookup_cons] at h ⊢
    by_cases z : (n == f) = true
    · rw [z] at h ⊢
      cases h
      exact ⟨v, rfl, q1⟩
    · have z : (n == f) = false := by simpa using z
      rw [z] at h ⊢
      exact zip_lookup q2 h
theorem ee_xat {C : Addr} {n : Str} {f : Str} {fs : List Str} (h : Ee K te env (.exc C (f :: fs) ds)) (E : ExV K C) (hn : PySem.W.findIn K (.ref C) n = some none) (hl : ((f :: fs).zip ds).lookup n = some d) : Ee K (tXat K n te) env d := fun F0 H0 F H σ S Q q =>
  h F0 H0 F H σ S _ fun v F1 H1 w r => by
    obtain ⟨a, vs, rfl, l1, rl, h⟩ := r
    rcases h with ⟨z, _⟩ | ⟨dx, h1, h2⟩
    · cases z
    · obtain ⟨u, g1, g2⟩ := zip_lookup rl hl
      exact ⟨a, C, dx, _, u, rfl, w.s _ _ h1, w.s _ _ h2, E, hn, g1, q u F1 H1 w g2⟩
/-- xs + ys, xs an own list, ys a new one -/
theorem en_cat {i : Nat} {es : List Dt} (hi : env[i]? = some (.ol ds)) (h : EnL K tb env es) (hz : ds.length + es.length ≤ 100000) : EnL K (tOp rCat (tVar i) tb) env (ds ++ es) := fun F0 H0 F H σ S Q q => by
  obtain ⟨v, h1, a, vs, rfl, g1, g2, g3, g4⟩ := S.sl i _ hi
  refine ⟨_, h1, h F0 H0 F H σ S _ fun p us F1 H1 w n1 n2 k1 k2 => ⟨a, p, vs, us, rfl, rfl, w.h a _ g3, k1, by rw [← g4.length, ← k2.length]; exact sz_of hz, fun l hl => ?_⟩⟩
  exact q l _ F1 _ (w.trans (Wk.own w.s _ hl)) (fresh_back w.h hl) (none_sub w.s hl) upd_same (RpL.append (g4.mono w.f) k2)
end
end Pw
namespace Pw
open PySem PySem.Spec PyProof.Rows L2 Evl
/-- the class x of the text, at C, makes exceptions by its own __init__ with the promise sp -/
def Xm (P : Program) (w : World) (K : PySem.W.Frag) (mg : Str → Option Value) (base : Heap) (x : Str) (C : Addr) (sp : Sp) : Prop :=
  ∃ (fI : Addr) (fd : FuncData) (ps : List Str), mg x = some (.ref C) ∧ OexC K C ∧ PySem.W.findIn K (.ref C) "__init__" = some (some (.ref fI)) ∧ PySem.W.typeIn K (.ref fI) = some (.type "function") ∧ Binds K fd ps [] ∧ FnOk P w K mg base CX0 1 fI fd ps sp
/-- .. without an __init__ -/
def Xm0 (K : PySem.W.Frag) (mg : Str → Option Value) (x : Str) (C : Addr) : Prop :=
  mg x = some (.ref C) ∧ PySem.W.excIn K C [.type "ValueError", .type "Exception", .type "BaseException", .type "object"] "ValueError.__new__" = true ∧ PySem.W.keepIn K (.ref C) = true
section
variable {X : Cx}
theorem pe_xm {x : Str} {C : Addr} {sp : Sp} {e : Expr} {es : List Expr} {ta : TA} {p pos : Pos} (G : Xm X.prog X.w X.K X.mg X.base x C sp) (hr : Room 2 X.A) (ha : PA X (e :: es) ta) (hg : Gl X x := by rfl)
    (hdb : (x == ("__debug__" : Str)) = false := by decide) (he : starEach (e :: es) X.env = (false, eval e X.env) :: starEach es X.env := by rfl) (hpl : (backTo pos (starEach es X.env)).any (·.1) = false := by rfl) :
    PE X (.Call (.Name x p) (e :: es) [] pos) (tXmk C sp ta) := by
  obtain ⟨fI, fd, ps, h1, h2, h3, h4, h5, h6⟩ := G
  exact pe_xmk h2 h3 h4 h6 hr h5 h1 ha hg hdb he hpl
theorem pe_xm0 {x : Str} {C : Addr} {p pos : Pos} (G : Xm0 X.K X.mg x C) (hg : Gl X x := by rfl) (hdb : (x == ("__debug__" : Str)) = false := by decide) : PE X (.Call (.Name x p) [] [] pos) (tXmk0 C) :=
  pe_xmk0 PySem.F.excBase_ValueError G.2.1 G.2.2 G.1 hg hdb
end
end Pw
namespace Pw
open PySem PySem.Spec PyProof.Rows L2 Evl
/-! ### the facts of exception classes as one look -/
def exvB (K : PySem.W.Frag) (C : Addr) : Bool := (PySem.W.clsIn K C).isSome && (decide (PySem.W.findIn K (.ref C) "__getattribute__" = some (some (.builtin "BaseException.__getattribute__"))) && (decide (PySem.W.findIn K (.ref C) "__getattr__" = some none) &&
  (decide (PySem.W.subIn K (.ref C) (.type "BaseException") = some true) && (decide (PySem.W.findIn K (.ref C) "__class__" = some (some (.builtin "object.__class__"))) && (decide (PySem.W.specialIn K (.builtin "object.__class__") "__get__" = some (some (.builtin "getset_descriptor.__get__"))) &&
  (decide (PySem.W.takesIn K (.builtin "object.__class__") = some true) && (decide (PySem.W.mroIn K C (.type "object") = some true) && PySem.W.hasDictIn K C)))))))
theorem exvB_ok {K : PySem.W.Frag} {C : Addr} (h : exvB K C = true) : ExV K C := by
  unfold exvB at h
  simp only [Bool.and_eq_true, decide_eq_true_eq] at h
  obtain ⟨h1, h2, h3, h4, h5, h6, h7, h8, h9⟩ := h
  exact ⟨h1, h2, h3, h4, h5, h6, h7, h8, h9⟩
def oexB (K : PySem.W.Frag) (C : Addr) : Bool := (match K.lookup C with
  | some ⟨.type "type", _, .cls cd, sl⟩ => (match cd.mro, sl.toList with
    | .ref C' :: bm, [_, _, _, _, some (.builtin n), _] => C' == C && (n == "ValueError.__new__" && (!cd.hasDel && (cd.hasDict && PySem.HandSPX.refsVE bm)))
    | _, _ => false)
  | _ => false) && (decide (PySem.W.findIn K (.ref C) "__setattr__" = some (some (.builtin "object.__setattr__"))) && (decide (PySem.W.subIn K (.ref C) (.type "BaseException") = some true) && (decide (PySem.W.typeIn K (.ref C) = some (.type "type")) && PySem.W.keepIn K (.ref C))))
theorem oexB_ok {K : PySem.W.Frag} {C : Addr} (h : oexB K C = true) : OexC K C := by
  unfold oexB at h
  obtain ⟨h0, h⟩ := Bool.and_eq_true_iff.mp h
  simp only [Bool.and_eq_true, decide_eq_true_eq] at h
  obtain ⟨h2, h3, h4, h5⟩ := h
  refine ⟨?_, h2, h3, h4, h5⟩
  split at h0
  · rename_i dd cd sl ho
    split at h0
    · rename_i C' bm k0 k1 k2 k3 n k5 hm hs
      simp only [Bool.and_eq_true, beq_iff_eq, Bool.not_eq_true'] at h0
      obtain ⟨rfl, rfl, hdel, hdict, hv⟩ := h0
      obtain ⟨nm, bs, mro, ns, qn, hd, sn, sub, ab, col, del⟩ := cd
      obtain ⟨l⟩ := sl
      dsimp only at hm hdel hdict hs
      subst hm hdel hdict hs
      exact ⟨nm, qn, ns, bs, bm, sn, sub, ab, col, dd, k0, k1, k2, k3, k5, ho, hv⟩
    · cases h0
  · cases h0
theorem pe_globR {X : Cx} {x : Str} {a : Addr} {pos : Pos} (h : X.mg x = some (.ref a)) (hg : Gl X x := by rfl) (hd : (x == ("__debug__" : Str)) = false := by decide) : PE X (.Name x pos) (tC (.ref a)) := pe_glob hg h rfl hd
end Pw
namespace Pw
open PySem PySem.Spec PyProof.Rows L2 Evl
section
variable {K : PySem.W.Frag} {env : En} {te : TE} {tA : TA} {g : TG} {tb : TS}
theorem rangeD_nat (n : Nat) : rangeD 0 (n : Int).toNat = (List.range n).map fun (i : Nat) => Dt.int (i : Int) := by
  unfold rangeD
  rw [Int.toNat_natCast]
  refine List.map_congr_left fun i _ => ?_
  rw [Int.zero_add]
/-- for i in range(n) -/
theorem se_rng {S : Type} (n : Nat) (h : EeA K tA env [.int (n : Int)]) (hn : n ≤ 100000) (enc : S → En) (step : S → Nat → S) (P : S → Nat → Prop) (s0 : S) (h0 : Le env (enc s0)) (p0 : P s0 0)
    (hs : ∀ s (i : Nat), i < n → P s i → P (step s i) (i + 1) ∧ ∃ e1, Ge K g (.int (i : Int)) (enc s) e1 ∧ Se K tb e1 (.nc (enc (step s i)))) : Se K (tFor (iRng1 tA) g tb) env (.nx (enc ((List.range n).foldl step s0))) := by
  refine se_fold (List.range n) (fun i => Dt.int (i : Int)) (rangeD_nat n) (ie_rng1 h (by omega)) enc step (fun s pre => P s pre.length) s0 h0 p0 fun s pre i post hx hp => ?_
  have hi : pre.length < n ∧ i = pre.length := by
    have h1 := congrArg List.length hx
    have h2 : (List.range n)[pre.length]? = some i := by rw [hx]; simp
    simp at h1
    rw [List.getElem?_range (by omega)] at h2
    exact ⟨by omega, (Option.some.inj h2).symm⟩
  obtain ⟨hl, rfl⟩ := hi
  obtain ⟨h1, h2⟩ := hs s pre.length hl hp
  refine ⟨?_, h2⟩
  rw [List.length_append]
  exact h1
theorem en_rng {j n : Nat} (h : EeA K tA env [.int (n : Int)]) (hn : n ≤ 40000) (v : Nat → Dt) (he : ∀ i : Nat, i < n → Ee K te (env.set j (.d (.int (i : Int)))) (v i)) : EnL K (tLc (iRng1 tA) (gName j) tYes te [j]) env ((List.range n).map v) := by
  have hl : (rangeD 0 (n : Int).toNat).length ≤ 40000 := by rw [rangeD_nat]; simpa using hn
  have h1 := en_map (K := K) (te := te) (j := j) (ie_rng1 h (by omega)) hl (fun d => match d with | .int x => v x.toNat | _ => .non) fun d hd => by
    rw [rangeD_nat] at hd
    obtain ⟨i, hi, rfl⟩ := List.mem_map.mp hd
    exact he i (by simpa using hi)
  rw [rangeD_nat, List.map_map] at h1
  exact h1
end
end Pw

set_option maxHeartbeats 400000
namespace K0
open PySem PySem.Spec PyProof.Rows L2 Pw
open Evl (rLenS rListS ixN_nat Ex rMax2)
def top (i : Nat) : Stmt := PySem.Challenge.pw_probewright_k00_errors_and_words.main.body.getD i (.Pass ⟨0, 0, 0, 0⟩)
local macro_rules | `(tactic| walk_at "side") => `(tactic| first
  | decide | omega | assumption | (show (0 : Int) < _; omega) | exact (show CDiv _ _ from ⟨by omega, by omega⟩) | exact (show CMul _ _ from Or.inr ⟨by omega, by omega⟩) | exact (show CMul _ _ from Or.inl ⟨by omega, by omega⟩) | exact (show CPow _ _ from ⟨by decide, by decide, by decide⟩))
local macro_rules | `(tactic| walk_at "op") => `(tactic| first
  | exact r2_I0 | exact r2_B0 | exact r2_eqI | exact r2_neI | exact r2_eqS | exact r2_neS
  | exact r2_eq rfl rfl rfl | exact r2_ne rfl rfl rfl
  | (refine' r2_I ?_; walk_at "side") | exact r2_inS | exact r2_niS)
local macro_rules | `(tactic| walk_at "rl") => `(tactic| first
  | exact rl_int | exact rl_max2 | exact rl_min2 | exact rl_len | exact rl_lenT | exact rl_isInt (by first | rfl | assumption) | exact rl_isBool (by first | rfl | assumption) | exact rl_isStr (by first | rfl | assumption) | exact rl_isTup (by first | rfl | assumption) | exact rl_isList (by first | rfl | assumption) | exact rl_tup | exact rl_tupT | (refine' rl_lenS ?_; walk_at "side"))
local macro_rules | `(tactic| walk_at "ea") => `(tactic| first
  | exact ea_nil
  | (refine' ea_cons ?eah ?eat; (case eah => walk_at "ev"); (case eat => walk_at "ea")))
local macro_rules | `(tactic| walk_at "ev") => `(tactic| first
  | exact ee_int | exact ee_bl | exact ee_str | exact ee_non | exact ee_ty | exact ee_var
  | (refine' ee_op ?eva ?evb ?evc; (case eva => walk_at "ev"); (case evb => walk_at "ev"); (case evc => walk_at "op"))
  | (refine' ee_cb ?evd ?eve; (case evd => walk_at "ea"); (case eve => walk_at "rl"))
  | (refine' ee_un ?evf r1_U; (case evf => walk_at "ev"))
  | (refine' ee_tup ?evg ?evi; (case evg => walk_at "ea"); (case evi => exact Nat.le_of_ble_eq_true rfl))
  | (refine' ee_lst ?evh ?evj; (case evh => walk_at "ea"); (case evj => exact Nat.le_of_ble_eq_true rfl))
  | assumption)
local macro_rules | `(tactic| walk_at "te") => `(tactic| first
  | (refine' te_test ?tea; (case tea => walk_at "ev"))
  | (refine' te_B ?teb; (case teb => walk_at "ev"))
  | (refine' te_not ?tec; (case tec => walk_at "te"))
  | (refine' te_or ?ted ?tee; (case ted => walk_at "te"); (case tee => intro _; walk_at "te"))
  | (refine' te_and ?tef ?teg; (case tef => walk_at "te"); (case teg => intro _; walk_at "te"))
  | assumption)
structure Txt (mg : Str → Option Value) : Prop where
  f_all : mg "all" = none
  f_bool : mg "bool" = none
  f_int : mg "int" = none
  f_isinstance : mg "isinstance" = none
  f_len : mg "len" = none
  f_list : mg "list" = none
  f_max : mg "max" = none
  f_min : mg "min" = none
  f_range : mg "range" = none
  f_str : mg "str" = none
  f_tuple : mg "tuple" = none
  f_ValueError : mg "ValueError" = none
  g_MOST_NAME : ∃ t, mg "MOST_NAME" = some (.int 12 t)
  g_MOST_PINS : ∃ t, mg "MOST_PINS" = some (.int 4 t)
  g_MOST_LINES : ∃ t, mg "MOST_LINES" = some (.int 400 t)
  g_MOST_SOURCES : ∃ t, mg "MOST_SOURCES" = some (.int 40 t)
  g_MOST_PATTERNS : ∃ t, mg "MOST_PATTERNS" = some (.int 1000 t)
  g_MOST_WIDTH : ∃ t, mg "MOST_WIDTH" = some (.int 64 t)
  g__LETTERS : ∃ t, mg "_LETTERS" = some (.str "abcdefghijklmnopqrstuvwxyz" t)
  g__CHARACTERS : ∃ t, mg "_CHARACTERS" = some (.str "abcdefghijklmnopqrstuvwxyz0123456789_" t)
section
variable {P : Program} {w : World} {K : PySem.W.Frag} {mg : Str → Option Value} {base : Heap}

/-! ### is_integer, is_bit -/
def isInt : Dt → Int → Int → Bool
  | .int i, a, b => decide (a ≤ i) && decide (i ≤ b)
  | _, _, _ => false
def m_is_integer : List Dt → Option Dt
  | [v, .int a, .int b] => if (tyD v).isSome then some (.bl (isInt v a b)) else none
  | _ => none
theorem l_is_integer (ds : List Dt) (d : Dt) (h : m_is_integer ds = some d) : ds.length = 3 := by
  unfold m_is_integer at h
  split at h
  · rfl
  · cases h
abbrev s_is_integer : Stmt := top 9
abbrev N_is_integer : List Str := ["value", "least", "greatest"]
theorem sc_is_integer : FnScope N_is_integer ["value", "least", "greatest"] (defScope s_is_integer) := ⟨rfl, rfl, rfl, by decide +kernel, rfl, by decide +kernel, by decide +kernel⟩
theorem k_is_integer (T : Txt mg) (D : Df K mg "is_integer" ["value", "least", "greatest"] s_is_integer)   : Fn P w K mg base 1 "is_integer" ["value", "least", "greatest"] (spF K (m_is_integer)) := by
  refine Fn.of D sc_is_integer (l_is_integer) fun f cdv A outer s H E hr => ?_
  refine ⟨_, (pss_cons (ps_if (PW.pt (pw_or (pt_not (pt_val (pe_callB call_isi (by rfl) T.f_isinstance (by decide +kernel) (pa_cons (pv 0) (pa_cons (pe_tyname (n := "int") T.f_int) pa_nil))))) (pw_or1 (pt_val (pe_callB call_isi (by rfl) T.f_isinstance (by decide +kernel) (pa_cons (pv 0) (pa_cons (pe_tyname (n := "bool") T.f_bool) pa_nil))))))) (pss_one (ps_ret pe_bl)) pss_nil)
      (pss_one (ps_ret (pe_chain op_le op_le (pv 1) (pv 0) (pv 2))))), ?_⟩
  intro ds d h
  unfold m_is_integer at h
  split at h
  · rename_i v a b
    split at h
    · rename_i hv
      cases h
      show Se K _ [.d v, .d (.int a), .d (.int b)] _
      refine se_when (b := !(isI v || isB v) || isB v) ?_ (fun hb => ?_) (fun hb => ?_)
      · walk_at "te"
      · refine se_seqR (se_ret (ee_is ee_bl ?_))
        cases v <;> first | rfl | cases hb
      · cases v <;> first | cases hb | skip
        refine se_ret ?_
        refine ee_chain ee_var ee_var r2_B0 (fun _ => ee_var) fun _ => r2_B0
    · cases h
  · cases h
def m_is_bit : List Dt → Option Dt
  | [v] => if (tyD v).isSome then some (.bl (isInt v 0 1)) else none
  | _ => none
theorem l_is_bit (ds : List Dt) (d : Dt) (h : m_is_bit ds = some d) : ds.length = 1 := by
  unfold m_is_bit at h
  split at h
  · rfl
  · cases h
abbrev s_is_bit : Stmt := top 10
abbrev N_is_bit : List Str := ["value"]
theorem sc_is_bit : FnScope N_is_bit ["value"] (defScope s_is_bit) := ⟨rfl, rfl, rfl, by decide +kernel, rfl, by decide +kernel, by decide +kernel⟩
theorem k_is_bit (T : Txt mg) (D : Df K mg "is_bit" ["value"] s_is_bit)  (G_is_integer : Fn P w K mg base 1 "is_integer" ["value", "least", "greatest"] (spF K (m_is_integer))) : Fn P w K mg base 2 "is_bit" ["value"] (spF K (m_is_bit)) := by
  refine Fn.of D sc_is_bit (l_is_bit) fun f cdv A outer s H E hr => ?_
  refine ⟨_, (pss_one (ps_ret (pe_fn G_is_integer (hr.mono (by decide)) (pa_cons (pv 0) (pa_cons pe_int (pa_cons pe_int pa_nil)))))), ?_⟩
  intro ds d h
  unfold m_is_bit at h
  split at h
  · rename_i v
    split at h
    · rename_i hv
      cases h
      show Se K _ [.d v] _
      refine se_ret (ee_call (by walk_at "ea") ?_)
      show (if (tyD v).isSome then _ else none) = _
      rw [if_pos hv]
    · cases h
  · cases h
end
end K0

set_option maxHeartbeats 400000
namespace K0
open PySem PySem.Spec PyProof.Rows L2 Pw
open Evl (rLenS rListS ixN_nat Ex rMax2)
local macro_rules | `(tactic| walk_at "side") => `(tactic| first
  | decide | omega | assumption | (show (0 : Int) < _; omega) | exact (show CDiv _ _ from ⟨by omega, by omega⟩) | exact (show CMul _ _ from Or.inr ⟨by omega, by omega⟩) | exact (show CMul _ _ from Or.inl ⟨by omega, by omega⟩) | exact (show CPow _ _ from ⟨by decide, by decide, by decide⟩))
local macro_rules | `(tactic| walk_at "op") => `(tactic| first
  | exact r2_I0 | exact r2_B0 | exact r2_eqI | exact r2_neI | exact r2_eqS | exact r2_neS
  | exact r2_eq rfl rfl rfl | exact r2_ne rfl rfl rfl
  | (refine' r2_I ?_; walk_at "side") | exact r2_inS | exact r2_niS)
local macro_rules | `(tactic| walk_at "rl") => `(tactic| first
  | exact rl_int | exact rl_max2 | exact rl_min2 | exact rl_len | exact rl_lenT | exact rl_isInt (by first | rfl | assumption) | exact rl_isBool (by first | rfl | assumption) | exact rl_isStr (by first | rfl | assumption) | exact rl_isTup (by first | rfl | assumption) | exact rl_isList (by first | rfl | assumption) | exact rl_tup | exact rl_tupT | (refine' rl_lenS ?_; walk_at "side"))
local macro_rules | `(tactic| walk_at "ea") => `(tactic| first
  | exact ea_nil
  | (refine' ea_cons ?eah ?eat; (case eah => walk_at "ev"); (case eat => walk_at "ea")))
local macro_rules | `(tactic| walk_at "ev") => `(tactic| first
  | exact ee_int | exact ee_bl | exact ee_str | exact ee_non | exact ee_ty | exact ee_var
  | (refine' ee_op ?eva ?evb ?evc; (case eva => walk_at "ev"); (case evb => walk_at "ev"); (case evc => walk_at "op"))
  | (refine' ee_cb ?evd ?eve; (case evd => walk_at "ea"); (case eve => walk_at "rl"))
  | (refine' ee_un ?evf r1_U; (case evf => walk_at "ev"))
  | (refine' ee_tup ?evg ?evi; (case evg => walk_at "ea"); (case evi => exact Nat.le_of_ble_eq_true rfl))
  | (refine' ee_lst ?evh ?evj; (case evh => walk_at "ea"); (case evj => exact Nat.le_of_ble_eq_true rfl))
  | assumption)
local macro_rules | `(tactic| walk_at "te") => `(tactic| first
  | (refine' te_test ?tea; (case tea => walk_at "ev"))
  | (refine' te_B ?teb; (case teb => walk_at "ev"))
  | (refine' te_not ?tec; (case tec => walk_at "te"))
  | (refine' te_or ?ted ?tee; (case ted => walk_at "te"); (case tee => intro _; walk_at "te"))
  | (refine' te_and ?tef ?teg; (case tef => walk_at "te"); (case teg => intro _; walk_at "te"))
  | assumption)
section
variable {P : Program} {w : World} {K : PySem.W.Frag} {mg : Str → Option Value} {base : Heap}

def isBit (d : Dt) : Bool := isInt d 0 1
def tyds (ds : List Dt) : Bool := ds.all fun d => (tyD d).isSome
def okT : Dt → Bool
  | .tup ds => decide (ds.length ≤ 40000) && tyds ds
  | d => (tyD d).isSome
def areBits : Dt → Int → Bool
  | .tup ds, n => decide ((ds.length : Int) = n) && ds.all isBit
  | _, _ => false
def m_are_bits : List Dt → Option Dt
  | [v, .int n] => if okT v then some (.bl (areBits v n)) else none
  | _ => none
theorem l_are_bits (ds : List Dt) (d : Dt) (h : m_are_bits ds = some d) : ds.length = 2 := by
  unfold m_are_bits at h
  split at h
  · rfl
  · cases h
theorem okT_ty {v : Dt} (h : okT v = true) : (tyD v).isSome = true := by
  cases v <;> first | exact h | rfl
abbrev s_are_bits : Stmt := top 11
abbrev N_are_bits : List Str := ["value", "count", "item"]
theorem sc_are_bits : FnScope N_are_bits ["value", "count"] (defScope s_are_bits) := ⟨rfl, rfl, rfl, by decide +kernel, rfl, by decide +kernel, by decide +kernel⟩
theorem k_are_bits (T : Txt mg) (D : Df K mg "are_bits" ["value", "count"] s_are_bits)  (G_is_bit : Fn P w K mg base 2 "is_bit" ["value"] (spF K (m_is_bit))) : Fn P w K mg base 3 "are_bits" ["value", "count"] (spF K (m_are_bits)) := by
  refine Fn.of D sc_are_bits (l_are_bits) fun f cdv A outer s H E hr => ?_
  refine ⟨_, (pss_cons (ps_if (PW.pt (pw_or (pt_not (pt_val (pe_callB call_isi (by rfl) T.f_isinstance (by decide +kernel) (pa_cons (pv 0) (pa_cons (pe_tyname (n := "tuple") T.f_tuple) pa_nil))))) (pw_or1 (pt_cmpR op_ne (pe_callB cr_len (by rfl) T.f_len PySem.boot_len (pa_cons (pv 0) pa_nil)) (pv 1) (nomark _))))) (pss_one (ps_ret pe_bl)) pss_nil)
      (pss_one (ps_ret (pe_callB (cr_all rfl) (by rfl) T.f_all (by decide +kernel) (pa_cons (pe_lc (own := [("item", 2)]) (g := gName 2) (tt := tYes) rfl sc_are_bits.nd (pi_tup (pv 0)) (blkOk_by (N := N_are_bits) (sc := defScope s_are_bits) (by decide +kernel)) (fun _ _ _ _ _ => pgn sc_are_bits.nd) (fun _ _ _ _ _ => pts_nil) (fun _ _ _ _ _ => (pe_fn G_is_bit (hr.mono (by decide)) (pa_cons (pv 2) pa_nil)))) pa_nil))))), ?_⟩
  intro ds d h
  unfold m_are_bits at h
  split at h
  · rename_i v n
    split at h
    · rename_i hv
      cases h
      show Se K _ [.d v, .d (.int n), .u] _
      have ht := okT_ty hv
      cases hT : isTp v with
      | false =>
        refine se_when (b := true) (te_or (a := true) (b := true) (te_is (te_not (a := isTp v) (by walk_at "te")) (by rw [hT]; rfl)) (fun z => nomatch z)) (fun _ => ?_) (fun z => nomatch z)
        refine se_seqR (se_ret (ee_is ee_bl ?_))
        cases v <;> first | rfl | cases hT
      | true =>
        cases v <;> first | cases hT | skip
        rename_i ds
        obtain ⟨hl, hd⟩ := Bool.and_eq_true_iff.mp hv
        have hl := of_decide_eq_true hl
        refine se_when (b := !decide ((ds.length : Int) = n)) (te_is (te_or (te_not (by walk_at "te")) (fun _ => by walk_at "te")) rfl) (fun hb => ?_) (fun hb => ?_)
        · refine se_seqR (se_ret (ee_is ee_bl ?_))
          show _ = Dt.bl (decide ((ds.length : Int) = n) && _)
          cases q : decide ((ds.length : Int) = n) with
          | true => rw [q] at hb; cases hb
          | false => rfl
        · refine se_ret (ee_is (ee_cb (ea_cons (ee_is (ee_new (en_map (ie_tup ee_var) hl (fun d => .bl (isBit d)) fun d hm => ?_)) (e := .lst ((ds.map isBit).map .bl)) (by rw [List.map_map]; rfl)) ea_nil) rl_all) ?_)
          · refine ee_call (by walk_at "ea") ?_
            show (if (tyD d).isSome then _ else none) = _
            rw [if_pos (List.all_eq_true.mp hd d hm)]
            rfl
          · show _ = Dt.bl (decide ((ds.length : Int) = n) && _)
            cases q : decide ((ds.length : Int) = n) with
            | false => rw [q] at hb; cases hb
            | true => rw [List.all_map, Bool.true_and]; rfl
    · cases h
  · cases h
end
end K0

set_option maxHeartbeats 400000
namespace K0
open PySem PySem.Spec PyProof.Rows L2 Pw
open Evl (rLenS rListS ixN_nat Ex rMax2)
local macro_rules | `(tactic| walk_at "side") => `(tactic| first
  | decide | omega | assumption | (show (0 : Int) < _; omega) | exact (show CDiv _ _ from ⟨by omega, by omega⟩) | exact (show CMul _ _ from Or.inr ⟨by omega, by omega⟩) | exact (show CMul _ _ from Or.inl ⟨by omega, by omega⟩) | exact (show CPow _ _ from ⟨by decide, by decide, by decide⟩))
local macro_rules | `(tactic| walk_at "op") => `(tactic| first
  | exact r2_I0 | exact r2_B0 | exact r2_eqI | exact r2_neI | exact r2_eqS | exact r2_neS
  | exact r2_eq rfl rfl rfl | exact r2_ne rfl rfl rfl
  | (refine' r2_I ?_; walk_at "side") | exact r2_inS | exact r2_niS)
local macro_rules | `(tactic| walk_at "rl") => `(tactic| first
  | exact rl_int | exact rl_max2 | exact rl_min2 | exact rl_len | exact rl_lenT | exact rl_isInt (by first | rfl | assumption) | exact rl_isBool (by first | rfl | assumption) | exact rl_isStr (by first | rfl | assumption) | exact rl_isTup (by first | rfl | assumption) | exact rl_isList (by first | rfl | assumption) | exact rl_tup | exact rl_tupT | (refine' rl_lenS ?_; walk_at "side"))
local macro_rules | `(tactic| walk_at "ea") => `(tactic| first
  | exact ea_nil
  | (refine' ea_cons ?eah ?eat; (case eah => walk_at "ev"); (case eat => walk_at "ea")))
local macro_rules | `(tactic| walk_at "ev") => `(tactic| first
  | exact ee_int | exact ee_bl | exact ee_str | exact ee_non | exact ee_ty | exact ee_var
  | (refine' ee_op ?eva ?evb ?evc; (case eva => walk_at "ev"); (case evb => walk_at "ev"); (case evc => walk_at "op"))
  | (refine' ee_cb ?evd ?eve; (case evd => walk_at "ea"); (case eve => walk_at "rl"))
  | (refine' ee_un ?evf r1_U; (case evf => walk_at "ev"))
  | (refine' ee_tup ?evg ?evi; (case evg => walk_at "ea"); (case evi => exact Nat.le_of_ble_eq_true rfl))
  | (refine' ee_lst ?evh ?evj; (case evh => walk_at "ea"); (case evj => exact Nat.le_of_ble_eq_true rfl))
  | assumption)
local macro_rules | `(tactic| walk_at "te") => `(tactic| first
  | (refine' te_test ?tea; (case tea => walk_at "ev"))
  | (refine' te_B ?teb; (case teb => walk_at "ev"))
  | (refine' te_not ?tec; (case tec => walk_at "te"))
  | (refine' te_or ?ted ?tee; (case ted => walk_at "te"); (case tee => intro _; walk_at "te"))
  | (refine' te_and ?tef ?teg; (case tef => walk_at "te"); (case teg => intro _; walk_at "te"))
  | assumption)
section
variable {P : Program} {w : World} {K : PySem.W.Frag} {mg : Str → Option Value} {base : Heap}

/-! ### is_name -/
def LET : Str := "abcdefghijklmnopqrstuvwxyz"
def CHR : Str := "abcdefghijklmnopqrstuvwxyz0123456789_"
def nameB (x : Str) : Bool := match x.cps.toList with
  | [] => false
  | c :: _ => decide (x.length ≤ 12) && (decide (c ∈ LET.cps.toList) && x.cps.toList.all fun c => decide (c ∈ CHR.cps.toList))
def okS : Dt → Bool
  | .str x => decide (x.length ≤ 40000)
  | d => (tyD d).isSome
theorem okS_ty {v : Dt} (h : okS v = true) : (tyD v).isSome = true := by
  cases v <;> first | exact h | rfl
def isName : Dt → Bool
  | .str x => nameB x
  | _ => false
def m_is_name : List Dt → Option Dt
  | [v] => if okS v then some (.bl (isName v)) else none
  | _ => none
theorem l_is_name (ds : List Dt) (d : Dt) (h : m_is_name ds = some d) : ds.length = 1 := by
  unfold m_is_name at h
  split at h
  · rfl
  · cases h
theorem len_cps (x : Str) : x.length = x.cps.toList.length := by simp [Str.length]
theorem str_empty {x : Str} (h : x.cps.toList = []) : x = "" := by
  obtain ⟨c⟩ := x
  have : c = #[] := by
    cases c
    simp at h
    rw [h]
  rw [this]
  rfl
theorem str_ne {x : Str} {c : Nat} {r : List Nat} (h : x.cps.toList = c :: r) : x ≠ "" := by
  rintro rfl
  cases h
theorem at0 {x : Str} {c : Nat} {r : List Nat} (h : x.cps.toList = c :: r) : atI x.cps.toList 0 = some c := by
  rw [h]
  have e := ixN_nat (n := (c :: r).length) (j := 0) (by simp)
  show (ixN (c :: r).length 0).bind _ = _
  rw [show (0 : Int) = ((0 : Nat) : Int) from rfl, e]
  rfl
abbrev s_is_name : Stmt := top 12
abbrev N_is_name : List Str := ["value", "sign"]
theorem sc_is_name : FnScope N_is_name ["value"] (defScope s_is_name) := ⟨rfl, rfl, rfl, by decide +kernel, rfl, by decide +kernel, by decide +kernel⟩
theorem k_is_name (T : Txt mg) (D : Df K mg "is_name" ["value"] s_is_name)   : Fn P w K mg base 1 "is_name" ["value"] (spF K (m_is_name)) := by
  refine Fn.of D sc_is_name (l_is_name) fun f cdv A outer s H E hr => ?_
  refine ⟨_, (pss_cons (ps_if (PW.pt (pw_or (pt_not (pt_val (pe_callB call_isi (by rfl) T.f_isinstance (by decide +kernel) (pa_cons (pv 0) (pa_cons (pe_tyname (n := "str") T.f_str) pa_nil))))) (pw_or1 (pt_cmpR op_eq (pv 0) pe_str (nomark _))))) (pss_one (ps_ret pe_bl)) pss_nil)
      (pss_cons (ps_if (PW.pt (pw_or (pt_cmpR op_gt (pe_callB call_len_str (by rfl) T.f_len PySem.boot_len (pa_cons (pv 0) pa_nil)) (pe_globI T.g_MOST_NAME) (nomark _)) (pw_or1 (pt_cmpR op_notInS (pe_ix ix_str (pv 0) pe_int (fun _ _ => rfl)) (pe_globS T.g__LETTERS) rfl)))) (pss_one (ps_ret pe_bl)) pss_nil)
      (pss_one (ps_ret (pe_callB (cr_all rfl) (by rfl) T.f_all (by decide +kernel) (pa_cons (pe_lc (own := [("sign", 1)]) (g := gName 1) (tt := tYes) rfl sc_is_name.nd (pi_str (pv 0)) (blkOk_by (N := N_is_name) (sc := defScope s_is_name) (by decide +kernel)) (fun _ _ _ _ _ => pgn sc_is_name.nd) (fun _ _ _ _ _ => pts_nil) (fun _ _ _ _ _ => (pe_cmpR op_inS (pv 1) (pe_globS T.g__CHARACTERS) rfl))) pa_nil)))))), ?_⟩
  intro ds d h
  unfold m_is_name at h
  split at h
  · rename_i v
    split at h
    · rename_i hv
      cases h
      show Se K _ [.d v, .u] _
      have ht := okS_ty hv
      cases hT : isS v with
      | false =>
        refine se_when (b := true) (te_or (a := true) (b := true) (te_is (te_not (a := isS v) (by walk_at "te")) (by rw [hT]; rfl)) (fun z => nomatch z)) (fun _ => ?_) (fun z => nomatch z)
        refine se_seqR (se_ret (ee_is ee_bl ?_))
        cases v <;> first | rfl | cases hT
      | true =>
        cases v <;> first | cases hT | skip
        rename_i x
        have hl : x.length ≤ 40000 := of_decide_eq_true hv
        refine se_when (b := decide (x = "")) (te_is (te_or (te_not (by walk_at "te")) (fun _ => by walk_at "te")) rfl) (fun hb => ?_) (fun hb => ?_)
        · refine se_seqR (se_ret (ee_is ee_bl ?_))
          have := of_decide_eq_true hb
          subst this
          rfl
        · cases hx : x.cps.toList with
          | nil =>
            rw [str_empty hx] at hb
            cases hb
          | cons c r =>
            refine se_when (b := decide ((12 : Int) < x.length) || !decide (c ∈ LET.cps.toList)) (te_or (by walk_at "te") fun _ => te_test (ee_op (ee_op ee_var ee_int (r2_ixS (by omega) (at0 hx))) ee_str r2_niS)) (fun hb => ?_) (fun hb => ?_)
            · refine se_seqR (se_ret (ee_is ee_bl ?_))
              show _ = Dt.bl (nameB x)
              unfold nameB
              rw [hx]
              simp only [Bool.or_eq_true, decide_eq_true_eq, Bool.not_eq_true', decide_eq_false_iff_not] at hb
              congr 1
              symm
              simp only [Bool.and_eq_false_iff, decide_eq_false_iff_not]
              rcases hb with hb | hb
              · left; omega
              · right; left; exact hb
            · refine se_ret (ee_is (ee_cb (ea_cons (ee_is (ee_new (en_map (ie_str ee_var) (by simp [charsD]; rw [← Array.length_toList, ← len_cps]; exact hl) (fun d => match d with | .str y => .bl (decide (y.cps.toList.head? = none) || decide (y.cps.toList.headD 0 ∈ CHR.cps.toList)) | _ => .non) fun d hm => ?_)) (e := .lst ((x.cps.toList.map fun c => decide (c ∈ CHR.cps.toList)).map .bl)) ?_) ea_nil) rl_all) ?_)
              · obtain ⟨c, hc, rfl⟩ := List.mem_map.mp hm
                exact ee_is (ee_op ee_var ee_str r2_inS) (by simp; rfl)
              · simp [charsD, List.map_map]
                intros
                rfl
              · simp only [Bool.or_eq_false_iff, decide_eq_false_iff_not, Bool.not_eq_false', decide_eq_true_eq] at hb
                show _ = Dt.bl (nameB x)
                unfold nameB
                rw [hx]
                simp only [List.all_map]
                have h1 : decide (x.length ≤ 12) = true := decide_eq_true (by omega)
                rw [h1, decide_eq_true hb.2]
                simp
    · cases h
  · cases h
end
end K0

set_option maxHeartbeats 400000
namespace K0
open PySem PySem.Spec PyProof.Rows L2 Pw
open Evl (rLenS rListS ixN_nat Ex rMax2)
local macro_rules | `(tactic| walk_at "side") => `(tactic| first
  | decide | omega | assumption | (show (0 : Int) < _; omega) | exact (show CDiv _ _ from ⟨by omega, by omega⟩) | exact (show CMul _ _ from Or.inr ⟨by omega, by omega⟩) | exact (show CMul _ _ from Or.inl ⟨by omega, by omega⟩) | exact (show CPow _ _ from ⟨by decide, by decide, by decide⟩))
local macro_rules | `(tactic| walk_at "op") => `(tactic| first
  | exact r2_I0 | exact r2_B0 | exact r2_eqI | exact r2_neI | exact r2_eqS | exact r2_neS
  | exact r2_eq rfl rfl rfl | exact r2_ne rfl rfl rfl
  | (refine' r2_I ?_; walk_at "side") | exact r2_inS | exact r2_niS)
local macro_rules | `(tactic| walk_at "rl") => `(tactic| first
  | exact rl_int | exact rl_max2 | exact rl_min2 | exact rl_len | exact rl_lenT | exact rl_isInt (by first | rfl | assumption) | exact rl_isBool (by first | rfl | assumption) | exact rl_isStr (by first | rfl | assumption) | exact rl_isTup (by first | rfl | assumption) | exact rl_isList (by first | rfl | assumption) | exact rl_tup | exact rl_tupT | (refine' rl_lenS ?_; walk_at "side"))
local macro_rules | `(tactic| walk_at "ea") => `(tactic| first
  | exact ea_nil
  | (refine' ea_cons ?eah ?eat; (case eah => walk_at "ev"); (case eat => walk_at "ea")))
local macro_rules | `(tactic| walk_at "ev") => `(tactic| first
  | exact ee_int | exact ee_bl | exact ee_str | exact ee_non | exact ee_ty | exact ee_var
  | (refine' ee_op ?eva ?evb ?evc; (case eva => walk_at "ev"); (case evb => walk_at "ev"); (case evc => walk_at "op"))
  | (refine' ee_cb ?evd ?eve; (case evd => walk_at "ea"); (case eve => walk_at "rl"))
  | (refine' ee_un ?evf r1_U; (case evf => walk_at "ev"))
  | (refine' ee_tup ?evg ?evi; (case evg => walk_at "ea"); (case evi => exact Nat.le_of_ble_eq_true rfl))
  | (refine' ee_lst ?evh ?evj; (case evh => walk_at "ea"); (case evj => exact Nat.le_of_ble_eq_true rfl))
  | assumption)
local macro_rules | `(tactic| walk_at "te") => `(tactic| first
  | (refine' te_test ?tea; (case tea => walk_at "ev"))
  | (refine' te_B ?teb; (case teb => walk_at "ev"))
  | (refine' te_not ?tec; (case tec => walk_at "te"))
  | (refine' te_or ?ted ?tee; (case ted => walk_at "te"); (case tee => intro _; walk_at "te"))
  | (refine' te_and ?tef ?teg; (case tef => walk_at "te"); (case teg => intro _; walk_at "te"))
  | assumption)
section
variable {P : Program} {w : World} {K : PySem.W.Frag} {mg : Str → Option Value} {base : Heap}

def m_law_cell : List Dt → Option Dt
  | [.lst ds, .int k] => if 0 ≤ k then (match ds[k.toNat]? with | some (.int i) => some (.int i) | some _ => none | none => some (.int 0)) else none
  | _ => none
theorem l_law_cell (ds : List Dt) (d : Dt) (h : m_law_cell ds = some d) : ds.length = 2 := by
  unfold m_law_cell at h
  split at h
  · rfl
  · cases h
abbrev s_law_cell : Stmt := top 24
abbrev N_law_cell : List Str := ["script", "k"]
theorem sc_law_cell : FnScope N_law_cell ["script", "k"] (defScope s_law_cell) := ⟨rfl, rfl, rfl, by decide +kernel, rfl, by decide +kernel, by decide +kernel⟩
theorem k_law_cell (T : Txt mg) (D : Df K mg "_law_cell" ["script", "k"] s_law_cell)   : Fn P w K mg base 1 "_law_cell" ["script", "k"] (spF K (m_law_cell)) := by
  refine Fn.of D sc_law_cell (l_law_cell) fun f cdv A outer s H E hr => ?_
  refine ⟨_, (pss_cons (ps_if (pt_cmpR op_lt (pv 1) (pe_callB cr_len (by rfl) T.f_len PySem.boot_len (pa_cons (pv 0) pa_nil)) (nomark _)) (pss_one (ps_ret (pe_callTy cr_int (by rfl) T.f_int (by decide +kernel) (pa_cons (pe_ix ix_list (pv 0) (pv 1) (fun _ _ => rfl)) pa_nil)))) pss_nil)
      (pss_one (ps_ret pe_int))), ?_⟩
  intro ds d h
  unfold m_law_cell at h
  split at h
  · rename_i ds k
    split at h
    · rename_i hk
      show Se K _ [.d (.lst ds), .d (.int k)] _
      refine se_when (b := decide (k < ds.length)) (by walk_at "te") (fun hb => ?_) (fun hb => ?_)
      · have hb := of_decide_eq_true hb
        have hg := itemD Dt.non (show k.toNat < ds.length by omega)
        rw [hg] at h
        refine se_seqR (se_ret ?_)
        split at h
        · rename_i i hi
          cases h
          have hi := Option.some.inj hi
          refine ee_cb (ea_cons (ee_op ee_var ee_var (r2_ixL (ixN_at hk (by omega)) (by rw [hg, hi]))) ea_nil) rl_int
        · cases h
        · rename_i hi
          cases hi
      · have hb := of_decide_eq_false hb
        rw [List.getElem?_eq_none (by omega)] at h
        cases h
        exact se_ret ee_int
    · cases h
  · cases h
def rich (c k : Int) : Int := if (10 : Int) ^ (18 : Int).toNat ≤ c then c else ((c * 48271 + k * 69621 + 11) % 2147483647) * 2147483629 + (((c * 48271 + k * 69621 + 11) % 2147483647) * 16807 + c) % 2147483629
theorem rich_nonneg (c k : Int) : 0 ≤ rich c k := by
  unfold rich
  split
  · rename_i h
    have : (0 : Int) ≤ (10 : Int) ^ (18 : Int).toNat := by decide
    omega
  · omega
def m_law_rich : List Dt → Option Dt
  | [.int c, .int k] => some (.int (rich c k))
  | _ => none
theorem l_law_rich (ds : List Dt) (d : Dt) (h : m_law_rich ds = some d) : ds.length = 2 := by
  unfold m_law_rich at h
  split at h
  · rfl
  · cases h
abbrev s_law_rich : Stmt := top 25
abbrev N_law_rich : List Str := ["cell", "k", "mixed"]
theorem sc_law_rich : FnScope N_law_rich ["cell", "k"] (defScope s_law_rich) := ⟨rfl, rfl, rfl, by decide +kernel, rfl, by decide +kernel, by decide +kernel⟩
theorem k_law_rich (T : Txt mg) (D : Df K mg "_law_rich" ["cell", "k"] s_law_rich)   : Fn P w K mg base 1 "_law_rich" ["cell", "k"] (spF K (m_law_rich)) := by
  refine Fn.of D sc_law_rich (l_law_rich) fun f cdv A outer s H E hr => ?_
  refine ⟨_, (pss_cons (ps_if (pt_cmpR op_ge (pv 0) (pe_op op_pow pe_int pe_int) (nomark _)) (pss_one (ps_ret (pe_callTy cr_int (by rfl) T.f_int (by decide +kernel) (pa_cons (pv 0) pa_nil)))) pss_nil)
      (pss_cons (pset (i := 2) sc_law_rich.nd (pe_op op_mod (pe_callTy cr_int (by rfl) T.f_int (by decide +kernel) (pa_cons (pe_op op_add (pe_op op_add (pe_op op_mul (pv 0) pe_int) (pe_op op_mul (pv 1) pe_int)) pe_int) pa_nil)) pe_int))
      (pss_one (ps_ret (pe_op op_add (pe_op op_mul (pv 2) pe_int) (pe_op op_mod (pe_callTy cr_int (by rfl) T.f_int (by decide +kernel) (pa_cons (pe_op op_add (pe_op op_mul (pv 2) pe_int) (pv 0)) pa_nil)) pe_int)))))), ?_⟩
  intro ds d h
  unfold m_law_rich at h
  split at h
  · rename_i c k
    cases h
    show Se K _ [.d (.int c), .d (.int k), .u] _
    refine se_when (b := decide ((10 : Int) ^ (18 : Int).toNat ≤ c)) (te_test (ee_op ee_var (by walk_at "ev") r2_B0)) (fun hb => ?_) (fun hb => ?_)
    · refine se_seqR (se_ret (ee_is (by walk_at "ev") ?_))
      unfold rich
      rw [if_pos (of_decide_eq_true hb)]
    · refine se_seq (se_asg (by walk_at "ev")) ?_
      refine se_ret (ee_is (by walk_at "ev") ?_)
      unfold rich
      rw [if_neg (of_decide_eq_false hb)]
  · cases h
def wstep (cs : Str) (s : Str × Int) : Str × Int := (s.1 ++ ⟨#[cs.cps.toList.getD (s.2 % (cs.length : Int)).toNat 0]⟩, s.2 / (cs.length : Int))
def wordOf (n : Nat) (cs : Str) (seed : Int) : Str × Int := (List.range n).foldl (fun s _ => wstep cs s) ("", seed)
def m_law_word : List Dt → Option Dt
  | [.int n, .str cs, .int seed] => if 0 ≤ n ∧ n ≤ 1000 ∧ 0 < cs.length ∧ cs.length ≤ 1000 then some (.str (wordOf n.toNat cs seed).1) else none
  | _ => none
theorem l_law_word (ds : List Dt) (d : Dt) (h : m_law_word ds = some d) : ds.length = 3 := by
  unfold m_law_word at h
  split at h
  · rfl
  · cases h
theorem wstep_len (cs : Str) (s : Str × Int) : (wstep cs s).1.length = s.1.length + 1 := by
  show (s.1 ++ ⟨#[cs.cps.toList.getD (s.2 % (cs.length : Int)).toNat 0]⟩ : Str).length = s.1.length + 1
  rw [show (s.1 ++ ⟨#[cs.cps.toList.getD (s.2 % (cs.length : Int)).toNat 0]⟩ : Str).length = s.1.length + (⟨#[cs.cps.toList.getD (s.2 % (cs.length : Int)).toNat 0]⟩ : Str).length from PySem.Str.length_append _ _]
  rfl
theorem fold_len (cs : Str) : ∀ (l : List Nat) (s : Str × Int), (l.foldl (fun s _ => wstep cs s) s).1.length = s.1.length + l.length
  | [], s => rfl
  | _ :: l, s => by
    rw [List.foldl_cons, fold_len cs l, wstep_len, List.length_cons]
    omega
theorem wordOf_len (n : Nat) (cs : Str) (seed : Int) : (wordOf n cs seed).1.length = n := by
  unfold wordOf
  rw [fold_len, List.length_range]
  show 0 + n = n
  omega
theorem atI_mod {cs : Str} (h : 0 < cs.length) (r : Int) : atI cs.cps.toList (r % (cs.length : Int)) = some (cs.cps.toList.getD (r % (cs.length : Int)).toNat 0) := by
  have h1 := Int.emod_nonneg r (show (cs.length : Int) ≠ 0 by omega)
  have h2 := Int.emod_lt_of_pos r (show (0 : Int) < cs.length by omega)
  have hl := len_cps cs
  unfold atI
  rw [ixN_at h1 (by omega)]
  exact itemD 0 (by omega)
abbrev s_law_word : Stmt := top 26
abbrev N_law_word : List Str := ["size", "chars", "seed", "word", "rest", "k"]
theorem sc_law_word : FnScope N_law_word ["size", "chars", "seed"] (defScope s_law_word) := ⟨rfl, rfl, rfl, by decide +kernel, rfl, by decide +kernel, by decide +kernel⟩
theorem k_law_word (T : Txt mg) (D : Df K mg "_law_word" ["size", "chars", "seed"] s_law_word)   : Fn P w K mg base 1 "_law_word" ["size", "chars", "seed"] (spF K (m_law_word)) := by
  refine Fn.of D sc_law_word (l_law_word) fun f cdv A outer s H E hr => ?_
  refine ⟨_, (pss_cons (pset (i := 3) sc_law_word.nd pe_str)
      (pss_cons (pset (i := 4) sc_law_word.nd (pe_callTy cr_int (by rfl) T.f_int (by decide +kernel) (pa_cons (pv 2) pa_nil)))
      (pss_cons (ps_for PassesOwn.never rfl (pi_range1 rfl T.f_range (pa_cons (pv 0) pa_nil)) (pgn (i := 5) sc_law_word.nd)
      (pss_cons (pset (i := 3) sc_law_word.nd (pe_op op_add_str (pv 3) (pe_ix ix_str (pv 1) (pe_op op_mod (pe_callTy cr_int (by rfl) T.f_int (by decide +kernel) (pa_cons (pv 4) pa_nil)) (pe_callB call_len_str (by rfl) T.f_len PySem.boot_len (pa_cons (pv 1) pa_nil))) (fun _ _ => rfl))))
      (pss_one (pset (i := 4) sc_law_word.nd (pe_op op_fdiv (pv 4) (pe_callB call_len_str (by rfl) T.f_len PySem.boot_len (pa_cons (pv 1) pa_nil)))))))
      (pss_one (ps_ret (pv 3)))))), ?_⟩
  intro ds d h
  unfold m_law_word at h
  split at h
  · rename_i n cs seed
    split at h
    · rename_i hc
      cases h
      obtain ⟨h1, h2, h3, h4⟩ := hc
      show Se K _ [.d (.int n), .d (.str cs), .d (.int seed), .u, .u, .u] _
      refine se_seq (se_asg (by walk_at "ev")) ?_
      refine se_seq (se_asg (by walk_at "ev")) ?_
      refine se_seq (se_fold (List.range n.toNat) (fun i => Dt.int (0 + (i : Int))) rfl (ie_rng1 (by walk_at "ea") (by omega)) (fun (s : Str × Int) => [.d (.int n), .d (.str cs), .d (.int seed), .d (.str s.1), .d (.int s.2), .x]) (fun s _ => wstep cs s) (fun s pre => s.1.length = pre.length) ("", seed) ?_ rfl ?_) ?_
      · exact Le.s (Le.s (Le.s (Le.s (Le.s (Le.x Le.nil)))))
      · intro s pre i post hx hp
        refine ⟨by rw [wstep_len, List.length_append, hp]; rfl, _, ge_name, ?_⟩
        have hpl : pre.length ≤ 1000 := by
          have := congrArg List.length hx
          simp at this
          omega
        refine se_nc (se_le (se_seq (se_asg (ee_op ee_var (ee_op ee_var (ee_op (by walk_at "ev") (by walk_at "ev") (r2_I ?_)) (r2_ixS (by omega) (atI_mod h3 _))) (r2_addS ?_))) (se_asg (ee_op ee_var (by walk_at "ev") (r2_I ?_)))) ?_)
        · show (0 : Int) < _
          omega
        · show s.1.length + 1 ≤ 100000
          omega
        · exact (show CDiv _ _ from ⟨by omega, by omega⟩)
        · exact Le.s (Le.s (Le.s (Le.s (Le.s (Le.x Le.nil)))))
      · exact se_ret ee_var
    · cases h
  · cases h
end
end K0

set_option maxHeartbeats 400000
namespace K0
open PySem PySem.Spec PyProof.Rows L2 Pw
open Evl (rLenS rListS ixN_nat Ex rMax2)
local macro_rules | `(tactic| walk_at "side") => `(tactic| first
  | decide | omega | assumption | (show (0 : Int) < _; omega) | exact (show CDiv _ _ from ⟨by omega, by omega⟩) | exact (show CMul _ _ from Or.inr ⟨by omega, by omega⟩) | exact (show CMul _ _ from Or.inl ⟨by omega, by omega⟩) | exact (show CPow _ _ from ⟨by decide, by decide, by decide⟩))
local macro_rules | `(tactic| walk_at "op") => `(tactic| first
  | exact r2_I0 | exact r2_B0 | exact r2_eqI | exact r2_neI | exact r2_eqS | exact r2_neS
  | exact r2_eq rfl rfl rfl | exact r2_ne rfl rfl rfl
  | (refine' r2_I ?_; walk_at "side") | exact r2_inS | exact r2_niS)
local macro_rules | `(tactic| walk_at "rl") => `(tactic| first
  | exact rl_int | exact rl_max2 | exact rl_min2 | exact rl_len | exact rl_lenT | exact rl_isInt (by first | rfl | assumption) | exact rl_isBool (by first | rfl | assumption) | exact rl_isStr (by first | rfl | assumption) | exact rl_isTup (by first | rfl | assumption) | exact rl_isList (by first | rfl | assumption) | exact rl_tup | exact rl_tupT | (refine' rl_lenS ?_; walk_at "side"))
local macro_rules | `(tactic| walk_at "ea") => `(tactic| first
  | exact ea_nil
  | (refine' ea_cons ?eah ?eat; (case eah => walk_at "ev"); (case eat => walk_at "ea")))
local macro_rules | `(tactic| walk_at "ev") => `(tactic| first
  | exact ee_int | exact ee_bl | exact ee_str | exact ee_non | exact ee_ty | exact ee_var
  | (refine' ee_op ?eva ?evb ?evc; (case eva => walk_at "ev"); (case evb => walk_at "ev"); (case evc => walk_at "op"))
  | (refine' ee_cb ?evd ?eve; (case evd => walk_at "ea"); (case eve => walk_at "rl"))
  | (refine' ee_un ?evf r1_U; (case evf => walk_at "ev"))
  | (refine' ee_tup ?evg ?evi; (case evg => walk_at "ea"); (case evi => exact Nat.le_of_ble_eq_true rfl))
  | (refine' ee_lst ?evh ?evj; (case evh => walk_at "ea"); (case evj => exact Nat.le_of_ble_eq_true rfl))
  | assumption)
local macro_rules | `(tactic| walk_at "te") => `(tactic| first
  | (refine' te_test ?tea; (case tea => walk_at "ev"))
  | (refine' te_B ?teb; (case teb => walk_at "ev"))
  | (refine' te_not ?tec; (case tec => walk_at "te"))
  | (refine' te_or ?ted ?tee; (case ted => walk_at "te"); (case tee => intro _; walk_at "te"))
  | (refine' te_and ?tef ?teg; (case tef => walk_at "te"); (case teg => intro _; walk_at "te"))
  | assumption)
section
variable {P : Program} {w : World} {K : PySem.W.Frag} {mg : Str → Option Value} {base : Heap}

def PR1 : Str := " !\"#$&'()*+,-./0123456789:;<=>?@ABCDEFGHIJKLMNOPQRSTUVWXYZ[\\]^_`"
def PR2 : Str := "abcdefghijklmnopqrstuvwxyz{|}~"
def m_law_printable : List Dt → Option Dt
  | [] => some (.str (PR1 ++ PR2))
  | _ => none
theorem l_law_printable (ds : List Dt) (d : Dt) (h : m_law_printable ds = some d) : ds.length = 0 := by
  unfold m_law_printable at h
  split at h
  · rfl
  · cases h
theorem PR_len : PR1.length + PR2.length ≤ 100000 := by decide +kernel
abbrev s_law_printable : Stmt := top 27
abbrev N_law_printable : List Str := ["chars"]
theorem sc_law_printable : FnScope N_law_printable [] (defScope s_law_printable) := ⟨rfl, rfl, rfl, by decide +kernel, rfl, by decide +kernel, by decide +kernel⟩
theorem k_law_printable (T : Txt mg) (D : Df K mg "_law_printable" [] s_law_printable)   : Fn P w K mg base 1 "_law_printable" [] (spF K (m_law_printable)) := by
  refine Fn.of D sc_law_printable (l_law_printable) fun f cdv A outer s H E hr => ?_
  refine ⟨_, (pss_cons (pset (i := 0) sc_law_printable.nd pe_str)
      (pss_one (ps_ret (pe_op op_add_str (pv 0) pe_str)))), ?_⟩
  intro ds d h
  unfold m_law_printable at h
  split at h
  · cases h
    show Se K _ [.u] _
    refine se_seq (se_asg (ee_str (x := PR1))) ?_
    exact se_ret (ee_op ee_var (ee_str (x := PR2)) (r2_addS PR_len))
  · cases h
def allIn (w cs : Str) : Bool := w.cps.toList.all fun c => decide (c ∈ cs.cps.toList)
def m_law_all_in : List Dt → Option Dt
  | [.str w, .str cs] => some (.bl (allIn w cs))
  | _ => none
theorem l_law_all_in (ds : List Dt) (d : Dt) (h : m_law_all_in ds = some d) : ds.length = 2 := by
  unfold m_law_all_in at h
  split at h
  · rfl
  · cases h
def ch (d : Dt) : Nat := match d with
  | .str y => y.cps.toList.headD 0
  | _ => 0
abbrev s_law_all_in : Stmt := top 28
abbrev N_law_all_in : List Str := ["word", "chars", "char"]
theorem sc_law_all_in : FnScope N_law_all_in ["word", "chars"] (defScope s_law_all_in) := ⟨rfl, rfl, rfl, by decide +kernel, rfl, by decide +kernel, by decide +kernel⟩
theorem k_law_all_in (T : Txt mg) (D : Df K mg "_law_all_in" ["word", "chars"] s_law_all_in)   : Fn P w K mg base 1 "_law_all_in" ["word", "chars"] (spF K (m_law_all_in)) := by
  refine Fn.of D sc_law_all_in (l_law_all_in) fun f cdv A outer s H E hr => ?_
  refine ⟨_, (pss_cons (ps_for PassesOwn.never rfl (pi_str (pv 0)) (pgn (i := 2) sc_law_all_in.nd)
      (pss_one (ps_if (pt_cmpR op_notInS (pv 2) (pv 1) rfl) (pss_one (ps_ret pe_bl)) pss_nil)))
      (pss_one (ps_ret pe_bl))), ?_⟩
  intro ds d h
  unfold m_law_all_in at h
  split at h
  · rename_i w cs
    cases h
    show Se K _ [.d (.str w), .d (.str cs), .u] _
    have hf := se_find (K := K) (env := [.d (.str w), .d (.str cs), .u]) (g := gName 2) (tb := tIfS (tTest (tOp rNotInS (tVar 2) (tVar 1))) (tRet (tC (.bl false))) tNext) (wi := iStr (tVar 0)) (ds := charsD w)
      (fun d => !decide (ch d ∈ cs.cps.toList)) (fun _ => .bl false) (ie_str ee_var) [.d (.str w), .d (.str cs), .x] (Le.s (Le.s (Le.x Le.nil))) (fun d hd => by
        obtain ⟨c, hc, rfl⟩ := List.mem_map.mp hd
        refine ⟨_, ge_name, fun hp => ?_, fun hp => ?_⟩
        · refine se_if (b := true) (te_test (ee_op ee_var ee_var ?_)) (fun _ => se_ret ee_bl) (fun z => nomatch z)
          have := r2_niS (K := K) (c := c) (w := cs)
          rw [show (!decide (c ∈ cs.cps.toList)) = true from hp] at this
          exact this
        · refine se_if (b := false) (te_test (ee_op ee_var ee_var ?_)) (fun z => nomatch z) (fun _ => se_nc (se_le se_next (Le.s (Le.s (Le.x Le.nil)))))
          have := r2_niS (K := K) (c := c) (w := cs)
          rw [show (!decide (c ∈ cs.cps.toList)) = false from hp] at this
          exact this)
    cases q : (charsD w).find? (fun d => !decide (ch d ∈ cs.cps.toList)) with
    | none =>
      rw [q] at hf
      refine se_seq hf (se_ret (ee_is ee_bl ?_))
      congr 1
      symm
      refine List.all_eq_true.mpr fun c hc => ?_
      have h2 : ¬ (!decide (c ∈ cs.cps.toList)) = true := List.find?_eq_none.mp q (Dt.str ⟨#[c]⟩) (List.mem_map.mpr ⟨c, hc, rfl⟩)
      simpa using h2
    | some d =>
      rw [q] at hf
      refine se_is (se_seqR hf) ?_
      congr 2
      symm
      have h1 := List.find?_some q
      obtain ⟨c, hc, rfl⟩ := List.mem_map.mp (List.mem_of_find?_eq_some q)
      have h1 : (!decide (c ∈ cs.cps.toList)) = true := h1
      cases z : allIn w cs with
      | false => rfl
      | true =>
        have h2 : decide (c ∈ cs.cps.toList) = true := List.all_eq_true.mp z c hc
        rw [h2] at h1
        cases h1
  · cases h
def DIG : Str := "0123456789_"
theorem CHR_eq : LET ++ DIG = CHR := by decide +kernel
theorem LD_len : LET.length + DIG.length ≤ 100000 := by decide +kernel
def m_law_is_name : List Dt → Option Dt
  | [v] => if okS v then some (.bl (isName v)) else none
  | _ => none
theorem l_law_is_name (ds : List Dt) (d : Dt) (h : m_law_is_name ds = some d) : ds.length = 1 := by
  unfold m_law_is_name at h
  split at h
  · rfl
  · cases h
abbrev s_law_is_name : Stmt := top 32
abbrev N_law_is_name : List Str := ["word", "letters"]
theorem sc_law_is_name : FnScope N_law_is_name ["word"] (defScope s_law_is_name) := ⟨rfl, rfl, rfl, by decide +kernel, rfl, by decide +kernel, by decide +kernel⟩
theorem k_law_is_name (T : Txt mg) (D : Df K mg "_law_is_name" ["word"] s_law_is_name)  (G__law_all_in : Fn P w K mg base 1 "_law_all_in" ["word", "chars"] (spF K (m_law_all_in))) : Fn P w K mg base 2 "_law_is_name" ["word"] (spF K (m_law_is_name)) := by
  refine Fn.of D sc_law_is_name (l_law_is_name) fun f cdv A outer s H E hr => ?_
  refine ⟨_, (pss_cons (ps_if (PW.pt (pw_or (pt_not (pt_val (pe_callB call_isi (by rfl) T.f_isinstance (by decide +kernel) (pa_cons (pv 0) (pa_cons (pe_tyname (n := "str") T.f_str) pa_nil))))) (pw_or (pt_cmpR op_lt (pe_callB call_len_str (by rfl) T.f_len PySem.boot_len (pa_cons (pv 0) pa_nil)) pe_int (nomark _)) (pw_or1 (pt_cmpR op_gt (pe_callB call_len_str (by rfl) T.f_len PySem.boot_len (pa_cons (pv 0) pa_nil)) pe_int (nomark _)))))) (pss_one (ps_ret pe_bl)) pss_nil)
      (pss_cons (pset (i := 1) sc_law_is_name.nd pe_str)
      (pss_one (ps_ret (pe_and (pe_cmpR op_inS (pe_ix ix_str (pv 0) pe_int (fun _ _ => rfl)) (pv 1) rfl) (pe_one (pe_fn G__law_all_in (hr.mono (by decide)) (pa_cons (pv 0) (pa_cons (pe_op op_add_str (pv 1) pe_str) pa_nil))))))))), ?_⟩
  intro ds d h
  unfold m_law_is_name at h
  split at h
  · rename_i v
    split at h
    · rename_i hv
      cases h
      show Se K _ [.d v, .u] _
      have ht := okS_ty hv
      cases hT : isS v with
      | false =>
        refine se_when (b := true) (te_or (a := true) (b := true) (te_is (te_not (a := isS v) (by walk_at "te")) (by rw [hT]; rfl)) (fun z => nomatch z)) (fun _ => ?_) (fun z => nomatch z)
        refine se_seqR (se_ret (ee_is ee_bl ?_))
        cases v <;> first | rfl | cases hT
      | true =>
        cases v <;> first | cases hT | skip
        rename_i x
        have hl : x.length ≤ 40000 := of_decide_eq_true hv
        refine se_when (b := decide ((x.length : Int) < 1) || decide ((12 : Int) < x.length)) (te_is (te_or (te_not (by walk_at "te")) (fun _ => te_or (by walk_at "te") (fun _ => by walk_at "te"))) rfl) (fun hb => ?_) (fun hb => ?_)
        · refine se_seqR (se_ret (ee_is ee_bl ?_))
          show _ = Dt.bl (nameB x)
          simp only [Bool.or_eq_true, decide_eq_true_eq] at hb
          congr 1
          symm
          unfold nameB
          split
          · rfl
          · rename_i c r hx
            have h1 := len_cps x
            rw [hx, List.length_cons] at h1
            rw [show decide (x.length ≤ 12) = false from decide_eq_false (by omega)]
            rfl
        · simp only [Bool.or_eq_false_iff, decide_eq_false_iff_not] at hb
          cases hx : x.cps.toList with
          | nil =>
            have h1 := len_cps x
            rw [hx] at h1
            simp at h1
            omega
          | cons c r =>
            refine se_seq (se_asg (ee_str (x := LET))) ?_
            refine se_ret (ee_is (ee_and (ee_op (ee_op ee_var ee_int (r2_ixS (by omega) (at0 hx))) ee_var r2_inS) (fun _ => ee_call (ea_cons ee_var (ea_cons (ee_op ee_var (ee_str (x := DIG)) (r2_addS LD_len)) ea_nil)) rfl)) ?_)
            show _ = Dt.bl (nameB x)
            unfold nameB
            rw [hx, show decide (x.length ≤ 12) = true from decide_eq_true (by omega), CHR_eq]
            unfold allIn
            rw [hx]
            rfl
    · cases h
  · cases h
def m_law_same : List Dt → Option Dt
  | [.bl a, .bl b] => some (.bl (decide (a = b)))
  | _ => none
theorem l_law_same (ds : List Dt) (d : Dt) (h : m_law_same ds = some d) : ds.length = 2 := by
  unfold m_law_same at h
  split at h
  · rfl
  · cases h
abbrev s_law_same : Stmt := top 33
abbrev N_law_same : List Str := ["actual", "due"]
theorem sc_law_same : FnScope N_law_same ["actual", "due"] (defScope s_law_same) := ⟨rfl, rfl, rfl, by decide +kernel, rfl, by decide +kernel, by decide +kernel⟩
theorem k_law_same (T : Txt mg) (D : Df K mg "_law_same" ["actual", "due"] s_law_same)   : Fn P w K mg base 1 "_law_same" ["actual", "due"] (spF K (m_law_same)) := by
  refine Fn.of D sc_law_same (l_law_same) fun f cdv A outer s H E hr => ?_
  refine ⟨_, (pss_one (ps_ret (pe_and (pe_callB call_isi (by rfl) T.f_isinstance (by decide +kernel) (pa_cons (pv 0) (pa_cons (pe_tyname (n := "bool") T.f_bool) pa_nil))) (pe_one (pe_cmpR op_eq (pv 0) (pv 1) (nomark _)))))), ?_⟩
  intro ds d h
  unfold m_law_same at h
  split at h
  · rename_i a b
    cases h
    show Se K _ [.d (.bl a), .d (.bl b)] _
    refine se_ret (ee_is (ee_and (by walk_at "ev") (fun _ => ee_op ee_var ee_var (r2_eq rfl rfl rfl))) ?_)
    show Dt.bl (true && decide (V.bl a = V.bl b)) = _
    simp
  · cases h
def m_law_plain : List Dt → Option Dt
  | [v] => if (tyD v).isSome then some (.bl (isI v)) else none
  | _ => none
theorem l_law_plain (ds : List Dt) (d : Dt) (h : m_law_plain ds = some d) : ds.length = 1 := by
  unfold m_law_plain at h
  split at h
  · rfl
  · cases h
abbrev s_law_plain : Stmt := top 34
abbrev N_law_plain : List Str := ["value"]
theorem sc_law_plain : FnScope N_law_plain ["value"] (defScope s_law_plain) := ⟨rfl, rfl, rfl, by decide +kernel, rfl, by decide +kernel, by decide +kernel⟩
theorem k_law_plain (T : Txt mg) (D : Df K mg "_law_plain" ["value"] s_law_plain)   : Fn P w K mg base 1 "_law_plain" ["value"] (spF K (m_law_plain)) := by
  refine Fn.of D sc_law_plain (l_law_plain) fun f cdv A outer s H E hr => ?_
  refine ⟨_, (pss_one (ps_ret (pe_and (pe_callB call_isi (by rfl) T.f_isinstance (by decide +kernel) (pa_cons (pv 0) (pa_cons (pe_tyname (n := "int") T.f_int) pa_nil))) (pe_one (pe_not (pe_callB call_isi (by rfl) T.f_isinstance (by decide +kernel) (pa_cons (pv 0) (pa_cons (pe_tyname (n := "bool") T.f_bool) pa_nil)))))))), ?_⟩
  intro ds d h
  unfold m_law_plain at h
  split at h
  · rename_i v
    split at h
    · rename_i hv
      cases h
      show Se K _ [.d v] _
      refine se_ret (ee_is (ee_and (by walk_at "ev") (fun _ => ee_not (by walk_at "ev"))) ?_)
      cases v <;> rfl
    · cases h
  · cases h
end
end K0

set_option maxHeartbeats 400000
namespace K0
open PySem PySem.Spec PyProof.Rows L2 Pw
open Evl (rLenS rListS ixN_nat Ex rMax2)
local macro_rules | `(tactic| walk_at "side") => `(tactic| first
  | decide | omega | assumption | (show (0 : Int) < _; omega) | exact (show CDiv _ _ from ⟨by omega, by omega⟩) | exact (show CMul _ _ from Or.inr ⟨by omega, by omega⟩) | exact (show CMul _ _ from Or.inl ⟨by omega, by omega⟩) | exact (show CPow _ _ from ⟨by decide, by decide, by decide⟩))
local macro_rules | `(tactic| walk_at "op") => `(tactic| first
  | exact r2_I0 | exact r2_B0 | exact r2_eqI | exact r2_neI | exact r2_eqS | exact r2_neS
  | exact r2_eq rfl rfl rfl | exact r2_ne rfl rfl rfl
  | (refine' r2_I ?_; walk_at "side") | exact r2_inS | exact r2_niS)
local macro_rules | `(tactic| walk_at "rl") => `(tactic| first
  | exact rl_int | exact rl_max2 | exact rl_min2 | exact rl_len | exact rl_lenT | exact rl_isInt (by first | rfl | assumption) | exact rl_isBool (by first | rfl | assumption) | exact rl_isStr (by first | rfl | assumption) | exact rl_isTup (by first | rfl | assumption) | exact rl_isList (by first | rfl | assumption) | exact rl_tup | exact rl_tupT | (refine' rl_lenS ?_; walk_at "side"))
local macro_rules | `(tactic| walk_at "ea") => `(tactic| first
  | exact ea_nil
  | (refine' ea_cons ?eah ?eat; (case eah => walk_at "ev"); (case eat => walk_at "ea")))
local macro_rules | `(tactic| walk_at "ev") => `(tactic| first
  | exact ee_int | exact ee_bl | exact ee_str | exact ee_non | exact ee_ty | exact ee_var
  | (refine' ee_op ?eva ?evb ?evc; (case eva => walk_at "ev"); (case evb => walk_at "ev"); (case evc => walk_at "op"))
  | (refine' ee_cb ?evd ?eve; (case evd => walk_at "ea"); (case eve => walk_at "rl"))
  | (refine' ee_un ?evf r1_U; (case evf => walk_at "ev"))
  | (refine' ee_tup ?evg ?evi; (case evg => walk_at "ea"); (case evi => exact Nat.le_of_ble_eq_true rfl))
  | (refine' ee_lst ?evh ?evj; (case evh => walk_at "ea"); (case evj => exact Nat.le_of_ble_eq_true rfl))
  | assumption)
local macro_rules | `(tactic| walk_at "te") => `(tactic| first
  | (refine' te_test ?tea; (case tea => walk_at "ev"))
  | (refine' te_B ?teb; (case teb => walk_at "ev"))
  | (refine' te_not ?tec; (case tec => walk_at "te"))
  | (refine' te_or ?ted ?tee; (case ted => walk_at "te"); (case tee => intro _; walk_at "te"))
  | (refine' te_and ?tef ?teg; (case tef => walk_at "te"); (case teg => intro _; walk_at "te"))
  | assumption)
section
variable {P : Program} {w : World} {K : PySem.W.Frag} {mg : Str → Option Value} {base : Heap}

def items0 : List Dt := [.non, .int 0, .int 1, .bl true, .tup [.str "a"], .lst [], .bl false, .int 2, .str "0"]
def sets0 : List Str := ["abcz", "ab01_", "0189_", "abcdefghijklmnopqrstuvwxyz0123456789_"]
theorem sets0_len : ∀ s ∈ sets0, 0 < s.length ∧ s.length ≤ 1000 := by decide +kernel
def NL : Str := "\n"
def ODD : Str := (PR1 ++ PR2) ++ NL
theorem ODD_len : 0 < ODD.length ∧ ODD.length ≤ 1000 := by decide +kernel
theorem ODD_len2 : (PR1 ++ PR2).length + NL.length ≤ 100000 := by decide +kernel
def set4 (r : Int) : Str := sets0.getD (r / 6 / 15 % 4).toNat ""
def word0 (r : Int) : Str := (wordOf (r / 6 % 15).toNat (set4 r) (r / 6 / 60)).1
def word1 (r : Int) : Str := (cutS (word0 r) none (some (r / 6 / 15 % ((word0 r).length : Int))) ++ ⟨#[ODD.cps.toList.getD (r / 6 / 400 % (ODD.length : Int)).toNat 0]⟩) ++ cutS (word0 r) (some (r / 6 / 15 % ((word0 r).length : Int) + 1)) none
def built (r : Int) : Dt := if r % 6 = 0 then items0.getD (r / 6 % 9).toNat .non else if r % 6 < 3 ∧ 0 < (word0 r).length then .str (word1 r) else .str (word0 r)
theorem set4_ok {r : Int} : 0 < (set4 r).length ∧ (set4 r).length ≤ 1000 := by
  have h1 := Int.emod_nonneg (r / 6 / 15) (show (4 : Int) ≠ 0 by decide)
  have h2 := Int.emod_lt_of_pos (r / 6 / 15) (show (0 : Int) < 4 by decide)
  have h3 := itemD ("" : Str) (l := sets0) (show (r / 6 / 15 % 4).toNat < sets0.length by show _ < 4; omega)
  exact sets0_len _ (List.mem_of_getElem? h3)
theorem word0_len (r : Int) : (word0 r).length ≤ 15 := by
  unfold word0
  rw [wordOf_len]
  omega
theorem cut_len (a : Str) (lo hi : Option Int) : (cutS a lo hi).length ≤ a.length := by
  rw [len_cps, len_cps]
  unfold cutS
  simp only [List.toList_toArray, List.length_take, List.length_drop]
  omega
theorem word1_len (r : Int) : (word1 r).length ≤ 40 := by
  have h := word0_len r
  have h1 := cut_len
  have e : (word1 r).length = (cutS (word0 r) none (some (r / 6 / 15 % ((word0 r).length : Int)))).length + 1 + (cutS (word0 r) (some (r / 6 / 15 % ((word0 r).length : Int) + 1)) none).length := by
    unfold word1
    rw [PySem.Str.length_append, PySem.Str.length_append]
    rfl
  have := h1 (word0 r) none (some (r / 6 / 15 % ((word0 r).length : Int)))
  have := h1 (word0 r) (some (r / 6 / 15 % ((word0 r).length : Int) + 1)) none
  omega
def m_law_built : List Dt → Option Dt
  | [.int r] => if 0 ≤ r then some (built r) else none
  | _ => none
theorem l_law_built (ds : List Dt) (d : Dt) (h : m_law_built ds = some d) : ds.length = 1 := by
  unfold m_law_built at h
  split at h
  · rfl
  · cases h
abbrev s_law_built : Stmt := top 31
abbrev N_law_built : List Str := ["rich", "choice", "rest", "sets", "word", "odd", "at"]
theorem sc_law_built : FnScope N_law_built ["rich"] (defScope s_law_built) := ⟨rfl, rfl, rfl, by decide +kernel, rfl, by decide +kernel, by decide +kernel⟩
theorem k_law_built (T : Txt mg) (D : Df K mg "_law_built" ["rich"] s_law_built)  (G__law_word : Fn P w K mg base 1 "_law_word" ["size", "chars", "seed"] (spF K (m_law_word))) (G__law_printable : Fn P w K mg base 1 "_law_printable" [] (spF K (m_law_printable))) : Fn P w K mg base 2 "_law_built" ["rich"] (spF K (m_law_built)) := by
  refine Fn.of D sc_law_built (l_law_built) fun f cdv A outer s H E hr => ?_
  refine ⟨_, (pss_cons (pset (i := 1) sc_law_built.nd (pe_op op_mod (pv 0) pe_int))
      (pss_cons (pset (i := 2) sc_law_built.nd (pe_op op_fdiv (pv 0) pe_int))
      (pss_cons (ps_if (pt_cmpR op_eq (pv 1) pe_int (nomark _)) (pss_one (ps_ret (pe_ix ix_list (pe_lst (pa_cons pe_non (pa_cons pe_int (pa_cons pe_int (pa_cons pe_bl (pa_cons (pe_tup (pa_cons pe_str pa_nil)) (pa_cons (pe_lst pa_nil) (pa_cons pe_bl (pa_cons pe_int (pa_cons pe_str pa_nil)))))))))) (pe_op op_mod (pv 2) pe_int) (fun _ _ => rfl)))) pss_nil)
      (pss_cons (pset (i := 3) sc_law_built.nd (pe_lst (pa_cons pe_str (pa_cons pe_str (pa_cons pe_str (pa_cons pe_str pa_nil))))))
      (pss_cons (pset (i := 4) sc_law_built.nd (pe_fn G__law_word (hr.mono (by decide)) (pa_cons (pe_op op_mod (pv 2) pe_int) (pa_cons (pe_ix ix_list (pv 3) (pe_op op_mod (pe_op op_fdiv (pv 2) pe_int) pe_int) (fun _ _ => rfl)) (pa_cons (pe_op op_fdiv (pv 2) pe_int) pa_nil)))))
      (pss_cons (ps_if (PW.pt (pw_and (pt_cmpR op_lt (pv 1) pe_int (nomark _)) (pw_and1 (pt_cmpR op_gt (pe_callB call_len_str (by rfl) T.f_len PySem.boot_len (pa_cons (pv 4) pa_nil)) pe_int (nomark _))))) (pss_cons (pset (i := 5) sc_law_built.nd (pe_op op_add_str (pe_fn0 G__law_printable (hr.mono (by decide))) pe_str))
      (pss_cons (pset (i := 6) sc_law_built.nd (pe_op op_mod (pe_op op_fdiv (pv 2) pe_int) (pe_callB call_len_str (by rfl) T.f_len PySem.boot_len (pa_cons (pv 4) pa_nil))))
      (pss_one (pset (i := 4) sc_law_built.nd (pe_op op_add_str (pe_op op_add_str (pe_slice sl_str (pv 4) po_none (po_some (pv 6))) (pe_ix ix_str (pv 5) (pe_op op_mod (pe_op op_fdiv (pv 2) pe_int) (pe_callB call_len_str (by rfl) T.f_len PySem.boot_len (pa_cons (pv 5) pa_nil))) (fun _ _ => rfl))) (pe_slice sl_str (pv 4) (po_some (pe_op op_add (pv 6) pe_int)) po_none)))))) pss_nil)
      (pss_one (ps_ret (pv 4))))))))), ?_⟩
  intro ds d h
  unfold m_law_built at h
  split at h
  · rename_i r
    split at h
    · rename_i hr0
      cases h
      show Se K _ [.d (.int r), .u, .u, .u, .u, .u, .u] _
      refine se_seq (se_asg (by walk_at "ev")) ?_
      refine se_seq (se_asg (by walk_at "ev")) ?_
      refine se_when (b := decide (r % 6 = 0)) (by walk_at "te") (fun hb => ?_) (fun hb => ?_)
      · refine se_seqR (se_ret (ee_is (ee_op (by walk_at "ev") (by walk_at "ev") (r2_ixM (by decide) (Int.le_refl 9))) ?_))
        unfold built
        rw [if_pos (of_decide_eq_true hb)]
        rfl
      · have hb := of_decide_eq_false hb
        refine se_seq (se_asg (by walk_at "ev")) ?_
        have hx : Ee K (tOp (rIxL K) (tVar 3) (tOp (rI (fun _ j => 0 < j) fun i j => V.int (i % j)) (tOp (rI CDiv fun i j => V.int (i / j)) (tVar 2) (tC (V.int 15))) (tC (V.int 4)))) [.d (.int r), .d (.int (r % 6)), .d (.int (r / 6)), .d (.lst (sets0.map .str)), .u, .u, .u] (.str (set4 r)) := by
          have h1 := Int.emod_nonneg (r / 6 / 15) (show (4 : Int) ≠ 0 by decide)
          have h2 := Int.emod_lt_of_pos (r / 6 / 15) (show (0 : Int) < 4 by decide)
          have h3 := itemD ("" : Str) (l := sets0) (show (r / 6 / 15 % 4).toNat < sets0.length by show _ < 4; omega)
          refine ee_op ee_var (by walk_at "ev") (r2_ixL (ixN_at h1 (by show _ < ((4 : Nat) : Int); omega)) ?_)
          rw [List.getElem?_map, h3]
          rfl
        have h1 := Int.emod_nonneg (r / 6) (show (15 : Int) ≠ 0 by decide)
        have h2 := Int.emod_lt_of_pos (r / 6) (show (0 : Int) < 15 by decide)
        have hs := set4_ok (r := r)
        refine se_seq (se_asg (d := .str (word0 r)) (ee_call (ea_cons (by walk_at "ev") (ea_cons hx (ea_cons (by walk_at "ev") ea_nil))) ?_)) ?_
        · show (if 0 ≤ r / 6 % 15 ∧ r / 6 % 15 ≤ 1000 ∧ 0 < (set4 r).length ∧ (set4 r).length ≤ 1000 then _ else none) = _
          rw [if_pos ⟨h1, by omega, hs.1, hs.2⟩]
          rfl
        · have hw := word0_len r
          show Se K _ [.d (.int r), .d (.int (r % 6)), .d (.int (r / 6)), .d (.lst (sets0.map .str)), .d (.str (word0 r)), .u, .u] _
          refine se_when (b := decide (r % 6 < 3) && decide ((0 : Int) < (word0 r).length)) (te_and (by walk_at "te") (fun _ => by walk_at "te")) (fun hc => ?_) (fun hc => ?_)
          · simp only [Bool.and_eq_true, decide_eq_true_eq] at hc
            have ho := ODD_len
            refine se_seq (se_seq (se_asg (d := .str ODD) (ee_op (ee_call ea_nil rfl) (ee_str (x := NL)) (r2_addS ODD_len2))) (se_seq (se_asg (by walk_at "ev")) (se_asg (d := .str (word1 r)) ?_))) (se_ret (ee_is ee_var ?_))
            · refine ee_op (ee_op (ee_slS ee_var oo_none (oo_some ee_var) (by omega)) (ee_op ee_var (ee_op (by walk_at "ev") (by walk_at "ev") (r2_I (show (0 : Int) < _ by omega))) (r2_ixS (by omega) (atI_mod ho.1 _))) (r2_addS ?_)) (ee_slS ee_var (oo_some (by walk_at "ev")) oo_none (by omega)) (r2_addS ?_)
              · have := cut_len (word0 r) none (some (r / 6 / 15 % ((word0 r).length : Int)))
                show _ + 1 ≤ _
                omega
              · have := cut_len (word0 r) none (some (r / 6 / 15 % ((word0 r).length : Int)))
                have := cut_len (word0 r) (some (r / 6 / 15 % ((word0 r).length : Int) + 1)) none
                rw [PySem.Str.length_append]
                show (_ + 1) + _ ≤ _
                omega
            · unfold built
              rw [if_neg hb, if_pos ⟨hc.1, by omega⟩]
          · refine se_ret (ee_is ee_var ?_)
            unfold built
            rw [if_neg hb, if_neg (fun z => ?_)]
            simp only [Bool.and_eq_false_iff, decide_eq_false_iff_not] at hc
            rcases hc with hc | hc <;> omega
    · cases h
  · cases h
end
end K0

set_option maxHeartbeats 400000
namespace K0
open PySem PySem.Spec PyProof.Rows L2 Pw
open Evl (rLenS rListS ixN_nat Ex rMax2)
local macro_rules | `(tactic| walk_at "side") => `(tactic| first
  | decide | omega | assumption | (show (0 : Int) < _; omega) | exact (show CDiv _ _ from ⟨by omega, by omega⟩) | exact (show CMul _ _ from Or.inr ⟨by omega, by omega⟩) | exact (show CMul _ _ from Or.inl ⟨by omega, by omega⟩) | exact (show CPow _ _ from ⟨by decide, by decide, by decide⟩))
local macro_rules | `(tactic| walk_at "op") => `(tactic| first
  | exact r2_I0 | exact r2_B0 | exact r2_eqI | exact r2_neI | exact r2_eqS | exact r2_neS
  | exact r2_eq rfl rfl rfl | exact r2_ne rfl rfl rfl
  | (refine' r2_I ?_; walk_at "side") | exact r2_inS | exact r2_niS)
local macro_rules | `(tactic| walk_at "rl") => `(tactic| first
  | exact rl_int | exact rl_max2 | exact rl_min2 | exact rl_len | exact rl_lenT | exact rl_isInt (by first | rfl | assumption) | exact rl_isBool (by first | rfl | assumption) | exact rl_isStr (by first | rfl | assumption) | exact rl_isTup (by first | rfl | assumption) | exact rl_isList (by first | rfl | assumption) | exact rl_tup | exact rl_tupT | (refine' rl_lenS ?_; walk_at "side"))
local macro_rules | `(tactic| walk_at "ea") => `(tactic| first
  | exact ea_nil
  | (refine' ea_cons ?eah ?eat; (case eah => walk_at "ev"); (case eat => walk_at "ea")))
local macro_rules | `(tactic| walk_at "ev") => `(tactic| first
  | exact ee_int | exact ee_bl | exact ee_str | exact ee_non | exact ee_ty | exact ee_var
  | (refine' ee_op ?eva ?evb ?evc; (case eva => walk_at "ev"); (case evb => walk_at "ev"); (case evc => walk_at "op"))
  | (refine' ee_cb ?evd ?eve; (case evd => walk_at "ea"); (case eve => walk_at "rl"))
  | (refine' ee_un ?evf r1_U; (case evf => walk_at "ev"))
  | (refine' ee_tup ?evg ?evi; (case evg => walk_at "ea"); (case evi => exact Nat.le_of_ble_eq_true rfl))
  | (refine' ee_lst ?evh ?evj; (case evh => walk_at "ea"); (case evj => exact Nat.le_of_ble_eq_true rfl))
  | assumption)
local macro_rules | `(tactic| walk_at "te") => `(tactic| first
  | (refine' te_test ?tea; (case tea => walk_at "ev"))
  | (refine' te_B ?teb; (case teb => walk_at "ev"))
  | (refine' te_not ?tec; (case tec => walk_at "te"))
  | (refine' te_or ?ted ?tee; (case ted => walk_at "te"); (case tee => intro _; walk_at "te"))
  | (refine' te_and ?tef ?teg; (case tef => walk_at "te"); (case teg => intro _; walk_at "te"))
  | assumption)
section
variable {P : Program} {w : World} {K : PySem.W.Frag} {mg : Str → Option Value} {base : Heap}

structure Cl (K : PySem.W.Frag) (mg : Str → Option Value) (c : Nat → Addr) (pe : Addr) : Prop where
  g_BadNetlist : mg "BadNetlist" = some (.ref (c 0))
  g_BadCircuit : mg "BadCircuit" = some (.ref (c 1))
  g_BadBreak : mg "BadBreak" = some (.ref (c 2))
  g_BadPattern : mg "BadPattern" = some (.ref (c 3))
  g_BadPaper : mg "BadPaper" = some (.ref (c 4))
  g_BadTester : mg "BadTester" = some (.ref (c 5))
  g_BadSignature : mg "BadSignature" = some (.ref (c 6))
  g_BadJob : mg "BadJob" = some (.ref (c 7))
  g_ProbeError : mg "ProbeError" = some (.ref pe)
  v : ∀ i, i < 8 → ExV K (c i)
  is : ∀ i j, i < 8 → j < 8 → PySem.W.kitOne K (.ref (c i)) (.ref (c j)) = some (decide (i = j))
  ip : ∀ i, i < 8 → PySem.W.kitOne K (.ref (c i)) (.ref pe) = some true
  iv : ∀ i, i < 8 → PySem.W.kitOne K (.ref (c i)) (.type "ValueError") = some true
  fr : ∀ i, i ∈ [0, 7] → PySem.W.findIn K (.ref (c i)) "row" = some none ∧ PySem.W.findIn K (.ref (c i)) "reason" = some none
  fc : PySem.W.findIn K (.ref (c 1)) "reason" = some none ∧ PySem.W.findIn K (.ref (c 1)) "name" = some none
theorem Cl.inj {c : Nat → Addr} {pe : Addr} (L : Cl K mg c pe) {i j : Nat} (hi : i < 8) (hj : j < 8) : decide (c j = c i) = decide (i = j) := by
  by_cases e : i = j
  · subst e
    simp
  · rw [decide_eq_false e]
    refine decide_eq_false fun z => ?_
    have h1 := L.is i j hi hj
    rw [z, L.is i i hi hi, decide_eq_false e] at h1
    simp at h1
def kindsOf (c : Nat → Addr) (C : Addr) : List Dt := [.bl (decide (c 0 = C)), .bl (decide (c 1 = C)), .bl (decide (c 2 = C)), .bl (decide (c 3 = C)), .bl (decide (c 4 = C)), .bl (decide (c 5 = C)), .bl (decide (c 6 = C)), .bl (decide (c 7 = C))]
def m_law_kinds (c : Nat → Addr) : List Dt → Option Dt
  | [.exc C fs ds] => if (List.range 8).any (fun i => decide (c i = C)) then some (.lst (kindsOf c C)) else none
  | _ => none
theorem l_law_kinds {c : Nat → Addr} (ds : List Dt) (d : Dt) (h : m_law_kinds c ds = some d) : ds.length = 1 := by
  unfold m_law_kinds at h
  split at h
  · rfl
  · cases h
variable {c : Nat → Addr} {pe : Addr}
abbrev s_law_kinds : Stmt := top 29
abbrev N_law_kinds : List Str := ["e", "kinds"]
theorem sc_law_kinds : FnScope N_law_kinds ["e"] (defScope s_law_kinds) := ⟨rfl, rfl, rfl, by decide +kernel, rfl, by decide +kernel, by decide +kernel⟩
theorem k_law_kinds (T : Txt mg) (D : Df K mg "_law_kinds" ["e"] s_law_kinds) (L : Cl K mg c pe)  : Fn P w K mg base 1 "_law_kinds" ["e"] (spF K (m_law_kinds c)) := by
  refine Fn.of D sc_law_kinds (l_law_kinds) fun f cdv A outer s H E hr => ?_
  refine ⟨_, (pss_cons (pset (i := 1) sc_law_kinds.nd (pe_lst (pa_cons (pe_callB cr_isx (by rfl) T.f_isinstance (by decide +kernel) (pa_cons (pv 0) (pa_cons (pe_globR L.g_BadNetlist) pa_nil))) (pa_cons (pe_callB cr_isx (by rfl) T.f_isinstance (by decide +kernel) (pa_cons (pv 0) (pa_cons (pe_globR L.g_BadCircuit) pa_nil))) (pa_cons (pe_callB cr_isx (by rfl) T.f_isinstance (by decide +kernel) (pa_cons (pv 0) (pa_cons (pe_globR L.g_BadBreak) pa_nil))) (pa_cons (pe_callB cr_isx (by rfl) T.f_isinstance (by decide +kernel) (pa_cons (pv 0) (pa_cons (pe_globR L.g_BadPattern) pa_nil))) pa_nil))))))
      (pss_cons (pset (i := 1) sc_law_kinds.nd (pe_op op_cat (pv 1) (pe_lst (pa_cons (pe_callB cr_isx (by rfl) T.f_isinstance (by decide +kernel) (pa_cons (pv 0) (pa_cons (pe_globR L.g_BadPaper) pa_nil))) (pa_cons (pe_callB cr_isx (by rfl) T.f_isinstance (by decide +kernel) (pa_cons (pv 0) (pa_cons (pe_globR L.g_BadTester) pa_nil))) (pa_cons (pe_callB cr_isx (by rfl) T.f_isinstance (by decide +kernel) (pa_cons (pv 0) (pa_cons (pe_globR L.g_BadSignature) pa_nil))) (pa_cons (pe_callB cr_isx (by rfl) T.f_isinstance (by decide +kernel) (pa_cons (pv 0) (pa_cons (pe_globR L.g_BadJob) pa_nil))) pa_nil)))))))
      (pss_one (ps_ret (pv 1))))), ?_⟩
  intro ds d h
  unfold m_law_kinds at h
  split at h
  · rename_i C fs ds
    split at h
    · rename_i hC
      cases h
      obtain ⟨i, hi, e⟩ := List.any_eq_true.mp hC
      have hi : i < 8 := by simpa using hi
      have e : c i = C := of_decide_eq_true e
      subst e
      show Se K _ [.d (.exc (c i) fs ds), .u] _
      have is : ∀ {en : En} {j : Nat}, j < 8 → en[0]? = some (.d (.exc (c i) fs ds)) → Ee K (tCB (rIsx K) (tCons (tVar 0) (tCons (tC (.ref (c j))) tNil))) en (.bl (decide (c j = c i))) := fun {en j} hj h0 => by
        rw [L.inj hi hj]
        exact ee_cb (ea_cons (ee_var h0) (ea_cons ee_adr ea_nil)) (rl_isx (L.v i hi) (L.is i j hi hj))
      refine se_seq (se_own (en_lst (ea_cons (is (by decide) rfl) (ea_cons (is (by decide) rfl) (ea_cons (is (by decide) rfl) (ea_cons (is (by decide) rfl) ea_nil)))) (Nat.le_of_ble_eq_true rfl))) ?_
      refine se_seq (se_own (en_cat rfl (en_lst (ea_cons (is (by decide) rfl) (ea_cons (is (by decide) rfl) (ea_cons (is (by decide) rfl) (ea_cons (is (by decide) rfl) ea_nil)))) (Nat.le_of_ble_eq_true rfl)) (Nat.le_of_ble_eq_true rfl))) ?_
      exact se_freeze (i := 1) rfl (se_ret ee_var)
    · cases h
  · cases h
def m_law_errors : List Dt → Option Dt
  | [.int n, .str w] => if PySem.PyData.strOk w then some (.bl true) else none
  | _ => none
theorem l_law_errors (ds : List Dt) (d : Dt) (h : m_law_errors ds = some d) : ds.length = 2 := by
  unfold m_law_errors at h
  split at h
  · rfl
  · cases h
end
end K0

set_option maxHeartbeats 400000
namespace K0
open PySem PySem.Spec PyProof.Rows L2 Pw
open Evl (rLenS rListS ixN_nat Ex rMax2)
local macro_rules | `(tactic| walk_at "side") => `(tactic| first
  | decide | omega | assumption | (show (0 : Int) < _; omega) | exact (show CDiv _ _ from ⟨by omega, by omega⟩) | exact (show CMul _ _ from Or.inr ⟨by omega, by omega⟩) | exact (show CMul _ _ from Or.inl ⟨by omega, by omega⟩) | exact (show CPow _ _ from ⟨by decide, by decide, by decide⟩))
local macro_rules | `(tactic| walk_at "op") => `(tactic| first
  | exact r2_I0 | exact r2_B0 | exact r2_eqI | exact r2_neI | exact r2_eqS | exact r2_neS
  | exact r2_eq rfl rfl rfl | exact r2_ne rfl rfl rfl
  | (refine' r2_I ?_; walk_at "side") | exact r2_inS | exact r2_niS)
local macro_rules | `(tactic| walk_at "rl") => `(tactic| first
  | exact rl_int | exact rl_max2 | exact rl_min2 | exact rl_len | exact rl_lenT | exact rl_isInt (by first | rfl | assumption) | exact rl_isBool (by first | rfl | assumption) | exact rl_isStr (by first | rfl | assumption) | exact rl_isTup (by first | rfl | assumption) | exact rl_isList (by first | rfl | assumption) | exact rl_tup | exact rl_tupT | (refine' rl_lenS ?_; walk_at "side"))
local macro_rules | `(tactic| walk_at "ea") => `(tactic| first
  | exact ea_nil
  | (refine' ea_cons ?eah ?eat; (case eah => walk_at "ev"); (case eat => walk_at "ea")))
local macro_rules | `(tactic| walk_at "ev") => `(tactic| first
  | exact ee_int | exact ee_bl | exact ee_str | exact ee_non | exact ee_ty | exact ee_var
  | (refine' ee_op ?eva ?evb ?evc; (case eva => walk_at "ev"); (case evb => walk_at "ev"); (case evc => walk_at "op"))
  | (refine' ee_cb ?evd ?eve; (case evd => walk_at "ea"); (case eve => walk_at "rl"))
  | (refine' ee_un ?evf r1_U; (case evf => walk_at "ev"))
  | (refine' ee_tup ?evg ?evi; (case evg => walk_at "ea"); (case evi => exact Nat.le_of_ble_eq_true rfl))
  | (refine' ee_lst ?evh ?evj; (case evh => walk_at "ea"); (case evj => exact Nat.le_of_ble_eq_true rfl))
  | assumption)
local macro_rules | `(tactic| walk_at "te") => `(tactic| first
  | (refine' te_test ?tea; (case tea => walk_at "ev"))
  | (refine' te_B ?teb; (case teb => walk_at "ev"))
  | (refine' te_not ?tec; (case tec => walk_at "te"))
  | (refine' te_or ?ted ?tee; (case ted => walk_at "te"); (case tee => intro _; walk_at "te"))
  | (refine' te_and ?tef ?teg; (case tef => walk_at "te"); (case teg => intro _; walk_at "te"))
  | assumption)
section
variable {P : Program} {w : World} {K : PySem.W.Frag} {mg : Str → Option Value} {base : Heap}

variable {c : Nat → Addr} {pe : Addr}
def errsOf (c : Nat → Addr) (n : Int) (w : Str) : List Dt := [.exc (c 0) ["reason", "row"] [.str w, .int n], .exc (c 1) ["name", "reason"] [.str "g", .str w], .exc (c 2) [] [], .exc (c 3) [] [], .exc (c 4) [] [], .exc (c 5) [] [], .exc (c 6) [] [], .exc (c 7) ["reason", "row"] [.str w, .int n]]
theorem errs_at (c : Nat → Addr) (n : Int) (w : Str) {i : Nat} (hi : i < 8) : ∃ fs ds, (errsOf c n w)[i]? = some (.exc (c i) fs ds) := by
  have h : i = 0 ∨ i = 1 ∨ i = 2 ∨ i = 3 ∨ i = 4 ∨ i = 5 ∨ i = 6 ∨ i = 7 := by omega
  rcases h with rfl | rfl | rfl | rfl | rfl | rfl | rfl | rfl <;> exact ⟨_, _, rfl⟩
theorem kinds_are (L : Cl K mg c pe) {i : Nat} (hi : i < 8) : (List.range 8).map (fun j : Nat => Dt.bl (decide ((j : Int) = (i : Int)))) = kindsOf c (c i) := by
  have h : ∀ j : Nat, decide ((j : Int) = (i : Int)) = decide (i = j) := fun j => decide_eq_decide.mpr (by omega)
  unfold kindsOf
  rw [L.inj hi (j := 0) (by decide), L.inj hi (j := 1) (by decide), L.inj hi (j := 2) (by decide), L.inj hi (j := 3) (by decide), L.inj hi (j := 4) (by decide), L.inj hi (j := 5) (by decide), L.inj hi (j := 6) (by decide), L.inj hi (j := 7) (by decide)]
  rw [← h 0, ← h 1, ← h 2, ← h 3, ← h 4, ← h 5, ← h 6, ← h 7]
  rfl
theorem lk1 : (("row" : Str) == ("reason" : Str)) = false := by decide +kernel
theorem lk2 : (("reason" : Str) == ("name" : Str)) = false := by decide +kernel
theorem lk3 : (("row" : Str) == ("row" : Str)) = true := by decide +kernel
theorem lk4 : (("reason" : Str) == ("reason" : Str)) = true := by decide +kernel
theorem lk5 : (("name" : Str) == ("name" : Str)) = true := by decide +kernel
theorem eqv_b (a b c d e f g h : Bool) : PyData.eqv (.list [.bool a, .bool b, .bool c, .bool d, .bool e, .bool f, .bool g, .bool h]) (.list [.bool a, .bool b, .bool c, .bool d, .bool e, .bool f, .bool g, .bool h]) = true := by
  simp [PyData.eqv, PyData.eqvAll]
abbrev s_law_errors : Stmt := top 30
abbrev N_law_errors : List Str := ["number", "word", "netlist", "circuit", "job", "errors", "k", "j", "told"]
theorem sc_law_errors : FnScope N_law_errors ["number", "word"] (defScope s_law_errors) := ⟨rfl, rfl, rfl, by decide +kernel, rfl, by decide +kernel, by decide +kernel⟩
theorem k_law_errors (T : Txt mg) (D : Df K mg "_law_errors" ["number", "word"] s_law_errors) (L : Cl K mg c pe) (G_BadNetlist : Xm P w K mg base "BadNetlist" (c 0) (spX2 (c 0) "row" "reason")) (G_BadCircuit : Xm P w K mg base "BadCircuit" (c 1) (spX2 (c 1) "reason" "name")) (G_BadJob : Xm P w K mg base "BadJob" (c 7) (spX2 (c 7) "row" "reason")) (G_BadBreak : Xm0 K mg "BadBreak" (c 2)) (G_BadPattern : Xm0 K mg "BadPattern" (c 3)) (G_BadPaper : Xm0 K mg "BadPaper" (c 4)) (G_BadTester : Xm0 K mg "BadTester" (c 5)) (G_BadSignature : Xm0 K mg "BadSignature" (c 6)) (G__law_kinds : Fn P w K mg base 1 "_law_kinds" ["e"] (spF K (m_law_kinds c))) : Fn P w K mg base 3 "_law_errors" ["number", "word"] (spF K (m_law_errors)) := by
  refine Fn.of D sc_law_errors (l_law_errors) fun f cdv A outer s H E hr => ?_
  have hu : (A.deeper (envOfC "_law_errors" (defScope s_law_errors) s.heap.objs.size f cdv)).units + 64 < cLine := hr.units
  refine ⟨_, (pss_cons (pset (i := 2) sc_law_errors.nd (pe_xm G_BadNetlist (hr.mono (by decide)) (pa_cons (pv 0) (pa_cons (pv 1) pa_nil))))
      (pss_cons (pset (i := 3) sc_law_errors.nd (pe_xm G_BadCircuit (hr.mono (by decide)) (pa_cons (pv 1) (pa_cons pe_str pa_nil))))
      (pss_cons (pset (i := 4) sc_law_errors.nd (pe_xm G_BadJob (hr.mono (by decide)) (pa_cons (pv 0) (pa_cons (pv 1) pa_nil))))
      (pss_cons (pset (i := 5) sc_law_errors.nd (pe_lst (pa_cons (pv 2) (pa_cons (pv 3) (pa_cons (pe_xm0 G_BadBreak) (pa_cons (pe_xm0 G_BadPattern) (pa_cons (pe_xm0 G_BadPaper) (pa_cons (pe_xm0 G_BadTester) (pa_cons (pe_xm0 G_BadSignature) (pa_cons (pv 4) pa_nil))))))))))
      (pss_cons (ps_for PassesOwn.never rfl (pi_range1 rfl T.f_range (pa_cons pe_int pa_nil)) (pgn (i := 6) sc_law_errors.nd)
      (pss_cons (ps_if (PW.pt (pw_or (pt_not (pt_val (pe_callB cr_isx (by rfl) T.f_isinstance (by decide +kernel) (pa_cons (pe_ix ix_list (pv 5) (pv 6) (fun _ _ => rfl)) (pa_cons (pe_globR L.g_ProbeError) pa_nil))))) (pw_or1 (pt_not (pt_val (pe_callB cr_isx (by rfl) T.f_isinstance (by decide +kernel) (pa_cons (pe_ix ix_list (pv 5) (pv 6) (fun _ _ => rfl)) (pa_cons (pe_tyname (n := "ValueError") T.f_ValueError) pa_nil)))))))) (pss_one (ps_ret pe_bl)) pss_nil)
      (pss_one (ps_if (pt_cmpR (op_neD hu) (pe_fn G__law_kinds (hr.mono (by decide)) (pa_cons (pe_ix ix_list (pv 5) (pv 6) (fun _ _ => rfl)) pa_nil)) (pe_lc (own := [("j", 7)]) (g := gName 7) (tt := tYes) rfl sc_law_errors.nd (pi_range1 rfl T.f_range (pa_cons pe_int pa_nil)) (blkOk_by (N := N_law_errors) (sc := defScope s_law_errors) (by decide +kernel)) (fun _ _ _ _ _ => pgn sc_law_errors.nd) (fun _ _ _ _ _ => pts_nil) (fun _ _ _ _ _ => (pe_cmpR op_eq (pv 7) (pv 6) (nomark _)))) (nomark _)) (pss_one (ps_ret pe_bl)) pss_nil))))
      (pss_cons (pset (i := 8) sc_law_errors.nd (pe_lst (pa_cons (pe_xat (pv 2)) (pa_cons (pe_xat (pv 2)) (pa_cons (pe_xat (pv 3)) (pa_cons (pe_xat (pv 3)) (pa_cons (pe_xat (pv 4)) (pa_cons (pe_xat (pv 4)) pa_nil))))))))
      (pss_one (ps_ret (pe_cmpR (op_eqD hu) (pv 8) (pe_lst (pa_cons (pv 0) (pa_cons (pv 1) (pa_cons (pv 1) (pa_cons pe_str (pa_cons (pv 0) (pa_cons (pv 1) pa_nil))))))) (nomark _)))))))))), ?_⟩
  intro ds d h
  unfold m_law_errors at h
  split at h
  · rename_i n w
    split at h
    case isFalse => cases h
    rename_i hw
    cases h
    have sh : SeqAt.shaped (.list [.int n, .str w, .str w, .str "g", .int n, .str w]) = true := by
      have hg : PySem.PyData.strOk "g" = true := by decide +kernel
      unfold SeqAt.shaped
      simp [PyData.canLay0, PyData.canLayAll0, hw, hg, PyData.depth, PyData.depthAll]
    show Se K _ [.d (.int n), .d (.str w), .u, .u, .u, .u, .u, .u, .u] _
    refine se_seq (se_asg (ee_xmk (by walk_at "ea"))) ?_
    refine se_seq (se_asg (ee_xmk (by walk_at "ea"))) ?_
    refine se_seq (se_asg (ee_xmk (by walk_at "ea"))) ?_
    refine se_seq (se_asg (d := .lst (errsOf c n w)) (ee_lst (ea_cons ee_var (ea_cons ee_var (ea_cons ee_xmk0 (ea_cons ee_xmk0 (ea_cons ee_xmk0 (ea_cons ee_xmk0 (ea_cons ee_xmk0 (ea_cons ee_var ea_nil)))))))) (Nat.le_of_ble_eq_true rfl))) ?_
    refine se_seq (se_rng 8 (by walk_at "ea") (by decide) (fun (_ : Unit) => [.d (.int n), .d (.str w), .d (.exc (c 0) ["reason", "row"] [.str w, .int n]), .d (.exc (c 1) ["name", "reason"] [.str "g", .str w]), .d (.exc (c 7) ["reason", "row"] [.str w, .int n]), .d (.lst (errsOf c n w)), .x, .u, .u]) (fun _ _ => ()) (fun _ _ => True) () ?_ trivial ?_) ?_
    · exact Le.s (Le.s (Le.s (Le.s (Le.s (Le.s (Le.x (Le.s (Le.s Le.nil))))))))
    · intro _ i hi _
      refine ⟨trivial, _, ge_name, ?_⟩
      obtain ⟨fs, es, he⟩ := errs_at c n w hi
      have item : Ee K (tOp (rIxL K) (tVar 5) (tVar 6)) [.d (.int n), .d (.str w), .d (.exc (c 0) ["reason", "row"] [.str w, .int n]), .d (.exc (c 1) ["name", "reason"] [.str "g", .str w]), .d (.exc (c 7) ["reason", "row"] [.str w, .int n]), .d (.lst (errsOf c n w)), .d (.int (i : Int)), .u, .u] (.exc (c i) fs es) := by
        refine ee_op ee_var ee_var (r2_ixL (j := i) ?_ he)
        have := ixN_nat (n := (errsOf c n w).length) (j := i) hi
        exact this
      refine se_when (b := !true || !true) (te_or (te_not (te_B (ee_cb (ea_cons item (ea_cons ee_adr ea_nil)) (rl_isx (L.v i hi) (L.ip i hi))))) (fun _ => te_not (te_B (ee_cb (ea_cons item (ea_cons ee_ty ea_nil)) (rl_isxT (L.v i hi) (L.iv i hi)))))) (fun z => nomatch z) (fun _ => ?_)
      refine se_if (b := false) (te_test (ee_is (ee_op (ee_call (d := .lst (kindsOf c (c i))) (ea_cons item ea_nil) ?_) (ee_is (ee_new (en_rng (n := 8) (by walk_at "ea") (by decide) (fun j : Nat => Dt.bl (decide ((j : Int) = (i : Int)))) fun j hj => ?_)) (e := .lst (kindsOf c (c i))) ?_) (r2_neD (p := .list _) (q := .list _) rfl rfl rfl rfl)) ?_)) (fun z => nomatch z) (fun _ => se_nc (se_le se_next ?_))
      · show (if (List.range 8).any (fun j => decide (c j = c i)) then _ else none) = _
        rw [if_pos (List.any_eq_true.mpr ⟨i, by simpa using hi, by simp⟩)]
      · exact ee_op ee_var ee_var r2_eqI
      · exact congrArg Dt.lst (kinds_are L hi)
      · exact congrArg (fun b => Dt.bl (!b)) (eqv_b _ _ _ _ _ _ _ _)
      · exact Le.s (Le.s (Le.s (Le.s (Le.s (Le.s (Le.x (Le.s (Le.s Le.nil))))))))
    · have r0 := L.fr 0 (by simp)
      have r7 := L.fr 7 (by simp)
      refine se_seq (se_asg (d := .lst [.int n, .str w, .str w, .str "g", .int n, .str w]) (ee_lst (ea_cons (ee_xat ee_var (L.v 0 (by decide)) r0.1 ?_) (ea_cons (ee_xat ee_var (L.v 0 (by decide)) r0.2 ?_) (ea_cons (ee_xat ee_var (L.v 1 (by decide)) L.fc.1 ?_) (ea_cons (ee_xat ee_var (L.v 1 (by decide)) L.fc.2 ?_) (ea_cons (ee_xat ee_var (L.v 7 (by decide)) r7.1 ?_) (ea_cons (ee_xat ee_var (L.v 7 (by decide)) r7.2 ?_) ea_nil)))))) (Nat.le_of_ble_eq_true rfl))) ?_
      any_goals simp only [List.zip_cons_cons, List.lookup_cons, lk1, lk2, lk3, lk4, lk5]
      refine se_ret (ee_is (ee_op ee_var (ee_lst (by walk_at "ea") (Nat.le_of_ble_eq_true rfl)) (r2_eqD (p := .list _) (q := .list _) rfl rfl sh sh)) ?_)
      simp [PyData.eqv, PyData.eqvAll]
  · cases h
end
end K0

set_option maxHeartbeats 400000
namespace K0
open PySem PySem.Spec PyProof.Rows L2 Pw
open Evl (rLenS rListS ixN_nat Ex rMax2)
local macro_rules | `(tactic| walk_at "side") => `(tactic| first
  | decide | omega | assumption | (show (0 : Int) < _; omega) | exact (show CDiv _ _ from ⟨by omega, by omega⟩) | exact (show CMul _ _ from Or.inr ⟨by omega, by omega⟩) | exact (show CMul _ _ from Or.inl ⟨by omega, by omega⟩) | exact (show CPow _ _ from ⟨by decide, by decide, by decide⟩))
local macro_rules | `(tactic| walk_at "op") => `(tactic| first
  | exact r2_I0 | exact r2_B0 | exact r2_eqI | exact r2_neI | exact r2_eqS | exact r2_neS
  | exact r2_eq rfl rfl rfl | exact r2_ne rfl rfl rfl
  | (refine' r2_I ?_; walk_at "side") | exact r2_inS | exact r2_niS)
local macro_rules | `(tactic| walk_at "rl") => `(tactic| first
  | exact rl_int | exact rl_max2 | exact rl_min2 | exact rl_len | exact rl_lenT | exact rl_isInt (by first | rfl | assumption) | exact rl_isBool (by first | rfl | assumption) | exact rl_isStr (by first | rfl | assumption) | exact rl_isTup (by first | rfl | assumption) | exact rl_isList (by first | rfl | assumption) | exact rl_tup | exact rl_tupT | (refine' rl_lenS ?_; walk_at "side"))
local macro_rules | `(tactic| walk_at "ea") => `(tactic| first
  | exact ea_nil
  | (refine' ea_cons ?eah ?eat; (case eah => walk_at "ev"); (case eat => walk_at "ea")))
local macro_rules | `(tactic| walk_at "ev") => `(tactic| first
  | exact ee_int | exact ee_bl | exact ee_str | exact ee_non | exact ee_ty | exact ee_var
  | (refine' ee_op ?eva ?evb ?evc; (case eva => walk_at "ev"); (case evb => walk_at "ev"); (case evc => walk_at "op"))
  | (refine' ee_cb ?evd ?eve; (case evd => walk_at "ea"); (case eve => walk_at "rl"))
  | (refine' ee_un ?evf r1_U; (case evf => walk_at "ev"))
  | (refine' ee_tup ?evg ?evi; (case evg => walk_at "ea"); (case evi => exact Nat.le_of_ble_eq_true rfl))
  | (refine' ee_lst ?evh ?evj; (case evh => walk_at "ea"); (case evj => exact Nat.le_of_ble_eq_true rfl))
  | assumption)
local macro_rules | `(tactic| walk_at "te") => `(tactic| first
  | (refine' te_test ?tea; (case tea => walk_at "ev"))
  | (refine' te_B ?teb; (case teb => walk_at "ev"))
  | (refine' te_not ?tec; (case tec => walk_at "te"))
  | (refine' te_or ?ted ?tee; (case ted => walk_at "te"); (case tee => intro _; walk_at "te"))
  | (refine' te_and ?tef ?teg; (case tef => walk_at "te"); (case teg => intro _; walk_at "te"))
  | assumption)
section
variable {P : Program} {w : World} {K : PySem.W.Frag} {mg : Str → Option Value} {base : Heap}

variable {c : Nat → Addr} {pe : Addr}
theorem in01 (x : Int) : inV (V.int x) [V.int 0, V.int 1] = (decide (0 ≤ x) && decide (x ≤ 1)) := by
  unfold inV
  simp only [List.any_cons, List.any_nil, Bool.or_false]
  by_cases h0 : x = 0
  · subst h0; rfl
  · by_cases h1 : x = 1
    · subst h1; rfl
    · have e0 : eqV (V.int 0) (V.int x) = false := by
        simp [eqV]
        omega
      have e1 : eqV (V.int 1) (V.int x) = false := by
        simp [eqV]
        omega
      rw [e0, e1]
      symm
      simp only [Bool.or_false, Bool.and_eq_false_iff, decide_eq_false_iff_not]
      omega
theorem plain_in {env : En} {i : Nat} {v : Dt} (hv : env[i]? = some (.d v)) (ht : (tyD v).isSome = true) :
    Ee K (tAndV (tCall (spF K m_law_plain) [] E0 (tCons (tVar i) tNil)) (tOp (rIn K false) (tVar i) (tLst (tCons (tC (.int 0)) (tCons (tC (.int 1)) tNil))))) env (.bl (isBit v)) := by
  have hp : Ee K (tCall (spF K m_law_plain) [] E0 (tCons (tVar i) tNil)) env (.bl (isI v)) := ee_call (ea_cons (ee_var hv) ea_nil) (by
    show (if (tyD v).isSome then _ else none) = _
    rw [if_pos ht])
  cases hI : isI v with
  | false =>
    rw [hI] at hp
    refine ee_is (ee_and (b := false) hp (fun z => nomatch z)) ?_
    cases v <;> first | rfl | cases hI
  | true =>
    cases v <;> first | cases hI | skip
    rename_i x
    refine ee_is (ee_and hp (fun _ => ee_op (ee_var hv) (ee_lst (ea_cons ee_int (ea_cons ee_int ea_nil)) (Nat.le_of_ble_eq_true rfl)) (r2_in rfl rfl rfl rfl))) ?_
    show Dt.bl (true && inV (V.int x) [V.int 0, V.int 1]) = _
    rw [in01]
    rfl
def words3 : List Str := ["form", "", "loop"]
theorem words3_ok : ∀ w ∈ words3, PySem.PyData.strOk w = true := by decide +kernel
def items7 : List Dt := [.int 0, .int 1, .int 1, .int 0, .int 2, .bl true, .non]
def rowOf (r : Int) : List Dt := (List.range (r % 4).toNat).map fun j : Nat => items7.getD (r / (9 + (j : Int)) % 7).toNat .non
def nums (r : Int) : List Dt := [.int (r % 9 - 4), .bl true, .non, .str "1", .int ((10 : Int) ^ (20 : Int).toNat)]
theorem items7_at (i : Int) : items7.getD (i % 7).toNat .non ∈ items7 := by
  have h1 := Int.emod_nonneg i (show (7 : Int) ≠ 0 by decide)
  have h2 := Int.emod_lt_of_pos i (show (0 : Int) < 7 by decide)
  exact List.mem_of_getElem? (itemD Dt.non (l := items7) (show (i % 7).toNat < items7.length by show _ < 7; omega))
theorem items7_ty : ∀ d ∈ items7, (tyD d).isSome = true := by
  intro d hd
  simp only [items7, List.mem_cons, List.not_mem_nil, or_false] at hd
  rcases hd with rfl | rfl | rfl | rfl | rfl | rfl | rfl <;> rfl
theorem row_ty (r : Int) : ∀ d ∈ rowOf r, (tyD d).isSome = true := by
  intro d hd
  obtain ⟨j, _, rfl⟩ := List.mem_map.mp hd
  exact items7_ty _ (items7_at _)
theorem row_len (r : Int) : (rowOf r).length ≤ 4 := by
  unfold rowOf
  rw [List.length_map, List.length_range]
  omega
theorem nums_at (r i : Int) : (tyD ((nums r).getD (i % 5).toNat .non)).isSome = true := by
  have h1 := Int.emod_nonneg i (show (5 : Int) ≠ 0 by decide)
  have h2 := Int.emod_lt_of_pos i (show (0 : Int) < 5 by decide)
  have h3 := List.mem_of_getElem? (itemD Dt.non (l := nums r) (show (i % 5).toNat < (nums r).length by show _ < 5; omega))
  generalize (nums r).getD (i % 5).toNat .non = d at h3
  simp only [nums, List.mem_cons, List.not_mem_nil, or_false] at h3
  rcases h3 with rfl | rfl | rfl | rfl | rfl <;> rfl
theorem built_ok (r : Int) : okS (built r) = true ∧ (tyD (built r)).isSome = true := by
  unfold built
  split
  · have h1 := Int.emod_nonneg (r / 6) (show (9 : Int) ≠ 0 by decide)
    have h2 := Int.emod_lt_of_pos (r / 6) (show (0 : Int) < 9 by decide)
    have h3 := List.mem_of_getElem? (itemD Dt.non (l := items0) (show (r / 6 % 9).toNat < items0.length by show _ < 9; omega))
    generalize items0.getD (r / 6 % 9).toNat .non = d at h3
    simp only [items0, List.mem_cons, List.not_mem_nil, or_false] at h3
    rcases h3 with rfl | rfl | rfl | rfl | rfl | rfl | rfl | rfl | rfl <;> first | exact ⟨rfl, rfl⟩ | exact ⟨by decide +kernel, rfl⟩
  · split
    · exact ⟨decide_eq_true (by have := word1_len r; omega), rfl⟩
    · exact ⟨decide_eq_true (by have := word0_len r; omega), rfl⟩
def cellD (ds : List Dt) (k : Nat) : Int := match ds[k]? with
  | some (.int i) => i
  | _ => 0
theorem cell_ok {ds : List Dt} (h : ds.all isI = true) (k : Nat) : m_law_cell [.lst ds, .int (k : Int)] = some (.int (cellD ds k)) := by
  unfold cellD
  show (if (0 : Int) ≤ (k : Int) then (match ds[(k : Int).toNat]? with | some (.int i) => some (Dt.int i) | some _ => none | none => some (.int 0)) else none) = _
  rw [if_pos (by omega), Int.toNat_natCast]
  cases e : ds[k]? with
  | none => rfl
  | some d =>
    have := List.all_eq_true.mp h d (List.mem_of_getElem? e)
    cases d <;> first | rfl | cases this
def m_law : List Dt → Option Dt
  | [.lst ds] => if ds.all isI = true ∧ ds.length ≤ 63 then some (.bl true) else none
  | _ => none
theorem l_law (ds : List Dt) (d : Dt) (h : m_law ds = some d) : ds.length = 1 := by
  unfold m_law at h
  split at h
  · rfl
  · cases h
end
end K0

set_option maxHeartbeats 400000
namespace K0
open PySem PySem.Spec PyProof.Rows L2 Pw
open Evl (rLenS rListS ixN_nat Ex rMax2)
local macro_rules | `(tactic| walk_at "side") => `(tactic| first
  | decide | omega | assumption | (show (0 : Int) < _; omega) | exact (show CDiv _ _ from ⟨by omega, by omega⟩) | exact (show CMul _ _ from Or.inr ⟨by omega, by omega⟩) | exact (show CMul _ _ from Or.inl ⟨by omega, by omega⟩) | exact (show CPow _ _ from ⟨by decide, by decide, by decide⟩))
local macro_rules | `(tactic| walk_at "op") => `(tactic| first
  | exact r2_I0 | exact r2_B0 | exact r2_eqI | exact r2_neI | exact r2_eqS | exact r2_neS
  | exact r2_eq rfl rfl rfl | exact r2_ne rfl rfl rfl
  | (refine' r2_I ?_; walk_at "side") | exact r2_inS | exact r2_niS)
local macro_rules | `(tactic| walk_at "rl") => `(tactic| first
  | exact rl_int | exact rl_max2 | exact rl_min2 | exact rl_len | exact rl_lenT | exact rl_isInt (by first | rfl | assumption) | exact rl_isBool (by first | rfl | assumption) | exact rl_isStr (by first | rfl | assumption) | exact rl_isTup (by first | rfl | assumption) | exact rl_isList (by first | rfl | assumption) | exact rl_tup | exact rl_tupT | (refine' rl_lenS ?_; walk_at "side"))
local macro_rules | `(tactic| walk_at "ea") => `(tactic| first
  | exact ea_nil
  | (refine' ea_cons ?eah ?eat; (case eah => walk_at "ev"); (case eat => walk_at "ea")))
local macro_rules | `(tactic| walk_at "ev") => `(tactic| first
  | exact ee_int | exact ee_bl | exact ee_str | exact ee_non | exact ee_ty | exact ee_var
  | (refine' ee_op ?eva ?evb ?evc; (case eva => walk_at "ev"); (case evb => walk_at "ev"); (case evc => walk_at "op"))
  | (refine' ee_cb ?evd ?eve; (case evd => walk_at "ea"); (case eve => walk_at "rl"))
  | (refine' ee_un ?evf r1_U; (case evf => walk_at "ev"))
  | (refine' ee_tup ?evg ?evi; (case evg => walk_at "ea"); (case evi => exact Nat.le_of_ble_eq_true rfl))
  | (refine' ee_lst ?evh ?evj; (case evh => walk_at "ea"); (case evj => exact Nat.le_of_ble_eq_true rfl))
  | assumption)
local macro_rules | `(tactic| walk_at "te") => `(tactic| first
  | (refine' te_test ?tea; (case tea => walk_at "ev"))
  | (refine' te_B ?teb; (case teb => walk_at "ev"))
  | (refine' te_not ?tec; (case tec => walk_at "te"))
  | (refine' te_or ?ted ?tee; (case ted => walk_at "te"); (case tee => intro _; walk_at "te"))
  | (refine' te_and ?tef ?teg; (case tef => walk_at "te"); (case teg => intro _; walk_at "te"))
  | assumption)
section
variable {P : Program} {w : World} {K : PySem.W.Frag} {mg : Str → Option Value} {base : Heap}

variable {c : Nat → Addr} {pe : Addr}
theorem same_ok (a : Bool) : m_law_same [.bl a, .bl a] = some (.bl true) := by
  show some (Dt.bl (decide (a = a))) = _
  simp
set_option maxHeartbeats 4000000 in
abbrev s_law : Stmt := top 35
abbrev N_law : List Str := ["script", "limits", "k", "rich", "value", "row", "j", "due", "bit", "number", "least"]
theorem sc_law : FnScope N_law ["script"] (defScope s_law) := ⟨rfl, rfl, rfl, by decide +kernel, rfl, by decide +kernel, by decide +kernel⟩
theorem k_law (T : Txt mg) (D : Df K mg "law" ["script"] s_law)  (G__law_errors : Fn P w K mg base 3 "_law_errors" ["number", "word"] (spF K (m_law_errors))) (G__law_cell : Fn P w K mg base 1 "_law_cell" ["script", "k"] (spF K (m_law_cell))) (G__law_rich : Fn P w K mg base 1 "_law_rich" ["cell", "k"] (spF K (m_law_rich))) (G__law_built : Fn P w K mg base 2 "_law_built" ["rich"] (spF K (m_law_built))) (G__law_same : Fn P w K mg base 1 "_law_same" ["actual", "due"] (spF K (m_law_same))) (G__law_is_name : Fn P w K mg base 2 "_law_is_name" ["word"] (spF K (m_law_is_name))) (G_is_name : Fn P w K mg base 1 "is_name" ["value"] (spF K (m_is_name))) (G__law_plain : Fn P w K mg base 1 "_law_plain" ["value"] (spF K (m_law_plain))) (G_is_bit : Fn P w K mg base 2 "is_bit" ["value"] (spF K (m_is_bit))) (G_are_bits : Fn P w K mg base 3 "are_bits" ["value", "count"] (spF K (m_are_bits))) (G_is_integer : Fn P w K mg base 1 "is_integer" ["value", "least", "greatest"] (spF K (m_is_integer))) : Fn P w K mg base 4 "law" ["script"] (spF K (m_law)) := by
  refine Fn.of D sc_law (l_law) fun f cdv A outer s H E hr => ?_
  have hu : (A.deeper (envOfC "law" (defScope s_law) s.heap.objs.size f cdv)).units + 64 < cLine := hr.units
  refine ⟨_, (pss_cons (pset (i := 1) sc_law.nd (pe_lst (pa_cons (pe_globI T.g_MOST_NAME) (pa_cons (pe_globI T.g_MOST_PINS) (pa_cons (pe_globI T.g_MOST_LINES) (pa_cons (pe_globI T.g_MOST_SOURCES) (pa_cons (pe_globI T.g_MOST_PATTERNS) (pa_cons (pe_globI T.g_MOST_WIDTH) pa_nil))))))))
      (pss_cons (ps_if (PW.pt (pw_or (pt_cmpR (op_neD hu) (pv 1) (pe_lst (pa_cons pe_int (pa_cons pe_int (pa_cons pe_int (pa_cons pe_int (pa_cons pe_int (pa_cons pe_int pa_nil))))))) (nomark _)) (pw_or1 (pt_not (pt_val (pe_fn G__law_errors (hr.mono (by decide)) (pa_cons (pe_op op_mod (pe_fn G__law_cell (hr.mono (by decide)) (pa_cons (pv 0) (pa_cons pe_int pa_nil))) (pe_op op_pow pe_int pe_int)) (pa_cons (pe_ix ix_list (pe_lst (pa_cons pe_str (pa_cons pe_str (pa_cons pe_str pa_nil)))) (pe_op op_mod (pe_fn G__law_cell (hr.mono (by decide)) (pa_cons (pv 0) (pa_cons pe_int pa_nil))) pe_int) (fun _ _ => rfl)) pa_nil)))))))) (pss_one (ps_ret pe_bl)) pss_nil)
      (pss_cons (ps_for PassesOwn.never rfl (pi_range1 rfl T.f_range (pa_cons (pe_callB (cr_max2 rfl) (by rfl) T.f_max (by decide +kernel) (pa_cons pe_int (pa_cons (pe_callB (cr_min2 rfl) (by rfl) T.f_min (by decide +kernel) (pa_cons pe_int (pa_cons (pe_callB cr_len (by rfl) T.f_len PySem.boot_len (pa_cons (pv 0) pa_nil)) pa_nil))) pa_nil))) pa_nil)) (pgn (i := 2) sc_law.nd)
      (pss_cons (pset (i := 3) sc_law.nd (pe_fn G__law_rich (hr.mono (by decide)) (pa_cons (pe_fn G__law_cell (hr.mono (by decide)) (pa_cons (pv 0) (pa_cons (pv 2) pa_nil))) (pa_cons (pv 2) pa_nil))))
      (pss_cons (pset (i := 4) sc_law.nd (pe_fn G__law_built (hr.mono (by decide)) (pa_cons (pv 3) pa_nil)))
      (pss_cons (ps_if (pt_not (pt_val (pe_fn G__law_same (hr.mono (by decide)) (pa_cons (pe_fn G_is_name (hr.mono (by decide)) (pa_cons (pv 4) pa_nil)) (pa_cons (pe_fn G__law_is_name (hr.mono (by decide)) (pa_cons (pv 4) pa_nil)) pa_nil))))) (pss_one (ps_ret pe_bl)) pss_nil)
      (pss_cons (ps_if (pt_not (pt_val (pe_fn G__law_same (hr.mono (by decide)) (pa_cons (pe_fn G_is_bit (hr.mono (by decide)) (pa_cons (pv 4) pa_nil)) (pa_cons (pe_and (pe_fn G__law_plain (hr.mono (by decide)) (pa_cons (pv 4) pa_nil)) (pe_one (pe_cmpR op_in_seq (pv 4) (pe_lst (pa_cons pe_int (pa_cons pe_int pa_nil))) rfl))) pa_nil))))) (pss_one (ps_ret pe_bl)) pss_nil)
      (pss_cons (pset (i := 5) sc_law.nd (pe_callTy cr_tuple (by rfl) T.f_tuple (by decide +kernel) (pa_cons (pe_lc (own := [("j", 6)]) (g := gName 6) (tt := tYes) rfl sc_law.nd (pi_range1 rfl T.f_range (pa_cons (pe_op op_mod (pv 3) pe_int) pa_nil)) (blkOk_by (N := N_law) (sc := defScope s_law) (by decide +kernel)) (fun _ _ _ _ _ => pgn sc_law.nd) (fun _ _ _ _ _ => pts_nil) (fun _ _ _ _ _ => (pe_ix (show IxR _ (rIxL K) from ix_list) (pe_lst (pa_cons pe_int (pa_cons pe_int (pa_cons pe_int (pa_cons pe_int (pa_cons pe_int (pa_cons pe_bl (pa_cons pe_non pa_nil)))))))) (pe_op op_mod (pe_op op_fdiv (pv 3) (pe_op op_add pe_int (pv 6))) pe_int) (fun _ _ => rfl)))) pa_nil)))
      (pss_cons (pset (i := 7) sc_law.nd (pe_and (pe_cmpR op_eq (pe_op op_mod (pe_op op_fdiv (pv 3) pe_int) pe_int) (pe_callB cr_len (by rfl) T.f_len PySem.boot_len (pa_cons (pv 5) pa_nil)) (nomark _)) (pe_one (pe_callB (cr_all rfl) (by rfl) T.f_all (by decide +kernel) (pa_cons (pe_lc (own := [("bit", 8)]) (g := gName 8) (tt := tYes) rfl sc_law.nd (pi_tup (pv 5)) (blkOk_by (N := N_law) (sc := defScope s_law) (by decide +kernel)) (fun _ _ _ _ _ => pgn sc_law.nd) (fun _ _ _ _ _ => pts_nil) (fun _ _ _ _ _ => (pe_and (pe_fn G__law_plain (hr.mono (by decide)) (pa_cons (pv 8) pa_nil)) (pe_one (pe_cmpR (show OpR _ _ (rIn K false) from op_in_seq) (pv 8) (pe_lst (pa_cons pe_int (pa_cons pe_int pa_nil))) rfl))))) pa_nil)))))
      (pss_cons (ps_if (PW.pt (pw_or (pt_not (pt_val (pe_fn G__law_same (hr.mono (by decide)) (pa_cons (pe_fn G_are_bits (hr.mono (by decide)) (pa_cons (pv 5) (pa_cons (pe_op op_mod (pe_op op_fdiv (pv 3) pe_int) pe_int) pa_nil))) (pa_cons (pv 7) pa_nil))))) (pw_or1 (pt_val (pe_fn G_are_bits (hr.mono (by decide)) (pa_cons (pe_callTy cr_list (by rfl) T.f_list (by decide +kernel) (pa_cons (pv 5) pa_nil)) (pa_cons (pe_callB cr_len (by rfl) T.f_len PySem.boot_len (pa_cons (pv 5) pa_nil)) pa_nil))))))) (pss_one (ps_ret pe_bl)) pss_nil)
      (pss_cons (pset (i := 9) sc_law.nd (pe_ix ix_list (pe_lst (pa_cons (pe_op op_sub (pe_op op_mod (pv 3) pe_int) pe_int) (pa_cons pe_bl (pa_cons pe_non (pa_cons pe_str (pa_cons (pe_op op_pow pe_int pe_int) pa_nil)))))) (pe_op op_mod (pe_op op_fdiv (pv 3) pe_int) pe_int) (fun _ _ => rfl)))
      (pss_cons (pset (i := 10) sc_law.nd (pe_op op_sub (pe_op op_mod (pe_op op_fdiv (pv 3) pe_int) pe_int) pe_int))
      (pss_one (ps_if (pt_not (pt_val (pe_fn G__law_same (hr.mono (by decide)) (pa_cons (pe_fn G_is_integer (hr.mono (by decide)) (pa_cons (pv 9) (pa_cons (pv 10) (pa_cons (pe_op op_add (pv 10) pe_int) pa_nil)))) (pa_cons (pe_and (pe_fn G__law_plain (hr.mono (by decide)) (pa_cons (pv 9) pa_nil)) (pe_and (pe_cmpR op_le (pv 10) (pv 9) (nomark _)) (pe_one (pe_cmpR op_le (pv 9) (pe_op op_add (pv 10) pe_int) (nomark _))))) pa_nil))))) (pss_one (ps_ret pe_bl)) pss_nil))))))))))))
      (pss_one (ps_ret pe_bl))))), ?_⟩
  intro ds d h
  unfold m_law at h
  split at h
  case h_2 => cases h
  rename_i ds
  split at h
  case isFalse => cases h
  rename_i hc
  cases h
  obtain ⟨hI, hl⟩ := hc
  show Se K _ [.d (.lst ds), .u, .u, .u, .u, .u, .u, .u, .u, .u, .u] _
  have hcell : ∀ {en : En} {te : TE} {k : Nat}, en[0]? = some (.d (.lst ds)) → Ee K te en (.int (k : Int)) → Ee K (tCall (spF K m_law_cell) [] E0 (tCons (tVar 0) (tCons te tNil))) en (.int (cellD ds k)) := fun {en te k} h0 h1 => ee_call (ea_cons (ee_var h0) (ea_cons h1 ea_nil)) (cell_ok hI k)
  refine se_seq (se_asg (by walk_at "ev")) ?_
  refine se_when (b := false) (te_is (te_or (a := false) (b := false) (te_test (ee_is (ee_op ee_var (by walk_at "ev") (r2_neD (p := .list _) (q := .list _) rfl rfl rfl rfl)) rfl)) (fun _ => te_is (te_not (a := true) (te_B (ee_call (d := .bl true) (ea_cons (ee_op (hcell (k := 0) rfl ee_int) (by walk_at "ev") (r2_I (by show (0 : Int) < 10 ^ 9; decide))) (ea_cons (ee_op (z := .str (words3.getD (cellD ds 1 % 3).toNat "")) (by walk_at "ev") (ee_op (hcell (k := 1) rfl ee_int) ee_int (r2_I (by show (0 : Int) < 3; decide))) ?_) ea_nil)) ?_))) rfl)) rfl) (fun z => nomatch z) (fun _ => ?_)
  · have h1 := Int.emod_nonneg (cellD ds 1) (show (3 : Int) ≠ 0 by decide)
    have h2 := Int.emod_lt_of_pos (cellD ds 1) (show (0 : Int) < 3 by decide)
    have h3 := itemD ("" : Str) (l := words3) (show (cellD ds 1 % 3).toNat < words3.length by show _ < 3; omega)
    refine r2_ixL (ds := words3.map .str) (ixN_at h1 (by show _ < ((3 : Nat) : Int); omega)) ?_
    rw [List.getElem?_map, h3]
    rfl
  · have h1 := Int.emod_nonneg (cellD ds 1) (show (3 : Int) ≠ 0 by decide)
    have h2 := Int.emod_lt_of_pos (cellD ds 1) (show (0 : Int) < 3 by decide)
    have h3 := itemD ("" : Str) (l := words3) (show (cellD ds 1 % 3).toNat < words3.length by show _ < 3; omega)
    show (if PySem.PyData.strOk _ = true then _ else none) = _
    rw [if_pos (words3_ok _ (List.mem_of_getElem? h3))]
  · refine se_seq (se_rng (max 1 (min 25 ds.length)) (ea_cons (ee_is (ee_cb (ea_cons ee_int (ea_cons (ee_cb (ea_cons ee_int (ea_cons (ee_cb (ea_cons ee_var ea_nil) rl_len) ea_nil)) rl_min2) ea_nil)) rl_max2) ?_) ea_nil) (by omega)
      (fun (_ : Unit) => [.d (.lst ds), .x, .x, .x, .x, .x, .x, .x, .x, .x, .x]) (fun _ _ => ()) (fun _ _ => True) () ?_ trivial ?_) (se_ret ee_bl)
    · congr 1
      by_cases h1 : (ds.length : Int) < 25
      · rw [if_pos h1]
        by_cases h2 : (ds.length : Int) > 1
        · rw [if_pos h2]
          omega
        · rw [if_neg h2]
          omega
      · rw [if_neg h1, if_pos (by decide)]
        omega
    · exact Le.s (Le.x (Le.x (Le.x (Le.x (Le.x (Le.x (Le.x (Le.x (Le.x (Le.x Le.nil))))))))))
    · intro _ k hk _
      refine ⟨trivial, _, ge_name, ?_⟩
      have hr := rich_nonneg (cellD ds k) k
      refine se_nc (se_seq (se_asg (ee_call (d := .int (rich (cellD ds k) k)) (ea_cons (hcell rfl ee_var) (ea_cons ee_var ea_nil)) rfl)) ?_)
      generalize rich (cellD ds k) k = r at hr
      have hb := built_ok r
      refine se_seq (se_asg (d := built r) (ee_call (ea_cons ee_var ea_nil) (by show (if 0 ≤ r then _ else none) = _; rw [if_pos hr]))) ?_
      refine se_when (b := false) (te_is (te_not (a := true) (te_B (ee_call (ea_cons (ee_call (d := .bl (isName (built r))) (ea_cons ee_var ea_nil) (by show (if okS (built r) then _ else none) = _; rw [if_pos hb.1])) (ea_cons (ee_call (d := .bl (isName (built r))) (ea_cons ee_var ea_nil) (by show (if okS (built r) then _ else none) = _; rw [if_pos hb.1])) ea_nil)) (same_ok _)))) rfl) (fun z => nomatch z) (fun _ => ?_)
      refine se_when (b := false) (te_is (te_not (a := true) (te_B (ee_call (ea_cons (ee_call (d := .bl (isBit (built r))) (ea_cons ee_var ea_nil) (by show (if (tyD (built r)).isSome then _ else none) = _; rw [if_pos hb.2]; rfl)) (ea_cons (plain_in rfl hb.2) ea_nil)) (same_ok _)))) rfl) (fun z => nomatch z) (fun _ => ?_)
      have h4 := Int.emod_nonneg r (show (4 : Int) ≠ 0 by decide)
      have h4' := Int.emod_lt_of_pos r (show (0 : Int) < 4 by decide)
      refine se_seq (se_asg (d := .tup (rowOf r)) (ee_cb (ea_cons (ee_new (en_rng (n := (r % 4).toNat) (ea_cons (ee_is (by walk_at "ev") (by congr 1; omega)) ea_nil) (by omega) (fun j : Nat => items7.getD (r / (9 + (j : Int)) % 7).toNat .non) fun j hj => ?_)) ea_nil) rl_tup)) ?_
      · refine ee_op (by walk_at "ev") (ee_op (ee_op ee_var (by walk_at "ev") (r2_I (show CDiv _ _ from ⟨by omega, by omega⟩))) ee_int (r2_I (by show (0 : Int) < 7; decide))) (r2_ixM (ds := items7) (by decide) (Int.le_refl 7))
      · have hrl := row_len r
        have hrt := row_ty r
        refine se_seq (se_asg (d := .bl (decide (((rowOf r).length : Int) = r / 5 % 5) && (rowOf r).all isBit)) (ee_is (ee_and (by walk_at "ev") (fun _ => ee_cb (ea_cons (ee_is (ee_new (en_map (ie_tup ee_var) (by omega) (fun d => .bl (isBit d)) fun d hd => plain_in rfl (hrt d hd))) (e := .lst (((rowOf r).map isBit).map .bl)) (by rw [List.map_map]; rfl)) ea_nil) rl_all)) ?_)) ?_
        · rw [List.all_map]
          congr 2
          exact decide_eq_decide.mpr eq_comm
        · have okr : okT (.tup (rowOf r)) = true := Bool.and_eq_true_iff.mpr ⟨decide_eq_true (by omega), List.all_eq_true.mpr hrt⟩
          refine se_when (b := false) (te_is (te_or (a := false) (b := false) (te_is (te_not (a := true) (te_B (ee_call (ea_cons (ee_call (d := .bl (decide (((rowOf r).length : Int) = r / 5 % 5) && (rowOf r).all isBit)) (ea_cons ee_var (ea_cons (by walk_at "ev") ea_nil)) (by show (if okT (.tup (rowOf r)) then _ else none) = _; rw [if_pos okr]; rfl)) (ea_cons ee_var ea_nil)) (same_ok _)))) rfl) (fun _ => te_B (ee_call (d := .bl false) (ea_cons (ee_new (en_cb (ea_cons ee_var ea_nil) rn_listT)) (ea_cons (by walk_at "ev") ea_nil)) rfl))) rfl) (fun z => nomatch z) (fun _ => ?_)
          refine se_seq (se_asg (d := (nums r).getD (r / 9 % 5).toNat .non) (ee_op (d := .lst (nums r)) (by walk_at "ev") (by walk_at "ev") (r2_ixM (by decide) (Int.le_refl 5)))) ?_
          have hn := nums_at r (r / 9)
          generalize (nums r).getD (r / 9 % 5).toNat .non = v at hn
          refine se_seq (se_asg (by walk_at "ev")) ?_
          generalize r / 45 % 5 - 2 = lo
          refine se_if (b := false) (te_is (te_not (a := true) (te_B (ee_call (ea_cons (ee_call (d := .bl (isInt v lo (lo + 3))) (ea_cons ee_var (ea_cons ee_var (ea_cons (by walk_at "ev") ea_nil))) (by show (if (tyD v).isSome then _ else none) = _; rw [if_pos hn])) (ea_cons (d := .bl (isInt v lo (lo + 3))) ?_ ea_nil)) (same_ok _)))) rfl) (fun z => nomatch z) (fun _ => se_le se_next ?_)
          · have hp : ∀ {en : En}, en[9]? = some (.d v) → Ee K (tCall (spF K m_law_plain) [] E0 (tCons (tVar 9) tNil)) en (.bl (isI v)) := fun h0 => ee_call (ea_cons (ee_var h0) ea_nil) (by
              show (if (tyD v).isSome then _ else none) = _
              rw [if_pos hn])
            cases hI : isI v with
            | false =>
              have hp' := hp (en := [.d (.lst ds), .x, .d (.int (k : Int)), .d (.int r), .d (built r), .d (.tup (rowOf r)), .x, .d (.bl (decide (((rowOf r).length : Int) = r / 5 % 5) && (rowOf r).all isBit)), .x, .d v, .d (.int lo)]) rfl
              rw [hI] at hp'
              refine ee_is (ee_and (b := false) hp' (fun z => nomatch z)) ?_
              cases v <;> first | rfl | cases hI
            | true =>
              cases v <;> first | cases hI | skip
              rename_i x
              refine ee_is (ee_and (hp rfl) (fun _ => ee_and (ee_op ee_var ee_var r2_B0) (fun _ => ee_op ee_var (by walk_at "ev") r2_B0))) ?_
              rfl
          · exact Le.s (Le.x (Le.x (Le.x (Le.x (Le.x (Le.x (Le.x (Le.x (Le.x (Le.x Le.nil))))))))))
end
end K0

set_option maxHeartbeats 400000
namespace K0
open PySem PySem.Spec PyProof.Rows L2 Pw
open Evl (rLenS rListS ixN_nat Ex rMax2)
local macro_rules | `(tactic| walk_at "side") => `(tactic| first
  | decide | omega | assumption | (show (0 : Int) < _; omega) | exact (show CDiv _ _ from ⟨by omega, by omega⟩) | exact (show CMul _ _ from Or.inr ⟨by omega, by omega⟩) | exact (show CMul _ _ from Or.inl ⟨by omega, by omega⟩) | exact (show CPow _ _ from ⟨by decide, by decide, by decide⟩))
local macro_rules | `(tactic| walk_at "op") => `(tactic| first
  | exact r2_I0 | exact r2_B0 | exact r2_eqI | exact r2_neI | exact r2_eqS | exact r2_neS
  | exact r2_eq rfl rfl rfl | exact r2_ne rfl rfl rfl
  | (refine' r2_I ?_; walk_at "side") | exact r2_inS | exact r2_niS)
local macro_rules | `(tactic| walk_at "rl") => `(tactic| first
  | exact rl_int | exact rl_max2 | exact rl_min2 | exact rl_len | exact rl_lenT | exact rl_isInt (by first | rfl | assumption) | exact rl_isBool (by first | rfl | assumption) | exact rl_isStr (by first | rfl | assumption) | exact rl_isTup (by first | rfl | assumption) | exact rl_isList (by first | rfl | assumption) | exact rl_tup | exact rl_tupT | (refine' rl_lenS ?_; walk_at "side"))
local macro_rules | `(tactic| walk_at "ea") => `(tactic| first
  | exact ea_nil
  | (refine' ea_cons ?eah ?eat; (case eah => walk_at "ev"); (case eat => walk_at "ea")))
local macro_rules | `(tactic| walk_at "ev") => `(tactic| first
  | exact ee_int | exact ee_bl | exact ee_str | exact ee_non | exact ee_ty | exact ee_var
  | (refine' ee_op ?eva ?evb ?evc; (case eva => walk_at "ev"); (case evb => walk_at "ev"); (case evc => walk_at "op"))
  | (refine' ee_cb ?evd ?eve; (case evd => walk_at "ea"); (case eve => walk_at "rl"))
  | (refine' ee_un ?evf r1_U; (case evf => walk_at "ev"))
  | (refine' ee_tup ?evg ?evi; (case evg => walk_at "ea"); (case evi => exact Nat.le_of_ble_eq_true rfl))
  | (refine' ee_lst ?evh ?evj; (case evh => walk_at "ea"); (case evj => exact Nat.le_of_ble_eq_true rfl))
  | assumption)
local macro_rules | `(tactic| walk_at "te") => `(tactic| first
  | (refine' te_test ?tea; (case tea => walk_at "ev"))
  | (refine' te_B ?teb; (case teb => walk_at "ev"))
  | (refine' te_not ?tec; (case tec => walk_at "te"))
  | (refine' te_or ?ted ?tee; (case ted => walk_at "te"); (case tee => intro _; walk_at "te"))
  | (refine' te_and ?tef ?teg; (case tef => walk_at "te"); (case teg => intro _; walk_at "te"))
  | assumption)
section
variable {P : Program} {w : World} {K : PySem.W.Frag} {mg : Str → Option Value} {base : Heap}

abbrev s_iBadNetlist : Stmt := inClass (top 15) 0
abbrev s_iBadCircuit : Stmt := inClass (top 16) 0
abbrev s_iBadJob : Stmt := inClass (top 22) 0
def dd_is_integer : He.DefD := ⟨("is_integer", none), "is_integer", "is_integer", defArgs s_is_integer, defBody s_is_integer, defScope s_is_integer, [], []⟩
def dd_is_bit : He.DefD := ⟨("is_bit", none), "is_bit", "is_bit", defArgs s_is_bit, defBody s_is_bit, defScope s_is_bit, [], []⟩
def dd_are_bits : He.DefD := ⟨("are_bits", none), "are_bits", "are_bits", defArgs s_are_bits, defBody s_are_bits, defScope s_are_bits, [], []⟩
def dd_is_name : He.DefD := ⟨("is_name", none), "is_name", "is_name", defArgs s_is_name, defBody s_is_name, defScope s_is_name, [], []⟩
def dd_law_cell : He.DefD := ⟨("_law_cell", none), "_law_cell", "_law_cell", defArgs s_law_cell, defBody s_law_cell, defScope s_law_cell, [], []⟩
def dd_law_rich : He.DefD := ⟨("_law_rich", none), "_law_rich", "_law_rich", defArgs s_law_rich, defBody s_law_rich, defScope s_law_rich, [], []⟩
def dd_law_word : He.DefD := ⟨("_law_word", none), "_law_word", "_law_word", defArgs s_law_word, defBody s_law_word, defScope s_law_word, [], []⟩
def dd_law_printable : He.DefD := ⟨("_law_printable", none), "_law_printable", "_law_printable", defArgs s_law_printable, defBody s_law_printable, defScope s_law_printable, [], []⟩
def dd_law_all_in : He.DefD := ⟨("_law_all_in", none), "_law_all_in", "_law_all_in", defArgs s_law_all_in, defBody s_law_all_in, defScope s_law_all_in, [], []⟩
def dd_law_kinds : He.DefD := ⟨("_law_kinds", none), "_law_kinds", "_law_kinds", defArgs s_law_kinds, defBody s_law_kinds, defScope s_law_kinds, [], []⟩
def dd_law_errors : He.DefD := ⟨("_law_errors", none), "_law_errors", "_law_errors", defArgs s_law_errors, defBody s_law_errors, defScope s_law_errors, [], []⟩
def dd_law_built : He.DefD := ⟨("_law_built", none), "_law_built", "_law_built", defArgs s_law_built, defBody s_law_built, defScope s_law_built, [], []⟩
def dd_law_is_name : He.DefD := ⟨("_law_is_name", none), "_law_is_name", "_law_is_name", defArgs s_law_is_name, defBody s_law_is_name, defScope s_law_is_name, [], []⟩
def dd_law_same : He.DefD := ⟨("_law_same", none), "_law_same", "_law_same", defArgs s_law_same, defBody s_law_same, defScope s_law_same, [], []⟩
def dd_law_plain : He.DefD := ⟨("_law_plain", none), "_law_plain", "_law_plain", defArgs s_law_plain, defBody s_law_plain, defScope s_law_plain, [], []⟩
def dd_law : He.DefD := ⟨("law", none), "law", "law", defArgs s_law, defBody s_law, defScope s_law, [], []⟩
def dd_iBadNetlist : He.DefD := ⟨("BadNetlist", some "__init__"), "__init__", "BadNetlist.__init__", defArgs s_iBadNetlist, defBody s_iBadNetlist, defScope s_iBadNetlist, [], []⟩
def dd_iBadCircuit : He.DefD := ⟨("BadCircuit", some "__init__"), "__init__", "BadCircuit.__init__", defArgs s_iBadCircuit, defBody s_iBadCircuit, defScope s_iBadCircuit, [], []⟩
def dd_iBadJob : He.DefD := ⟨("BadJob", some "__init__"), "__init__", "BadJob.__init__", defArgs s_iBadJob, defBody s_iBadJob, defScope s_iBadJob, [], []⟩
def fnL : List He.DefD := [dd_is_integer, dd_is_bit, dd_are_bits, dd_is_name, dd_law_cell, dd_law_rich, dd_law_word, dd_law_printable, dd_law_all_in, dd_law_kinds, dd_law_errors, dd_law_built, dd_law_is_name, dd_law_same, dd_law_plain, dd_law, dd_iBadNetlist, dd_iBadCircuit, dd_iBadJob]
def faL : List He.Fa := [.glo "is_integer", .glo "is_bit", .glo "are_bits", .glo "is_name", .glo "_law_cell", .glo "_law_rich", .glo "_law_word", .glo "_law_printable", .glo "_law_all_in", .glo "_law_kinds", .glo "_law_errors", .glo "_law_built", .glo "_law_is_name", .glo "_law_same", .glo "_law_plain", .glo "law", .glo "ProbeError", .glo "BadNetlist", .glo "BadCircuit", .glo "BadBreak", .glo "BadPattern", .glo "BadPaper", .glo "BadTester", .glo "BadSignature", .glo "BadJob", .free "all", .free "bool", .free "int", .free "isinstance", .free "len", .free "list", .free "max", .free "min", .free "range", .free "str", .free "tuple", .free "ValueError", .int "MOST_NAME" 12, .int "MOST_PINS" 4, .int "MOST_LINES" 400, .int "MOST_SOURCES" 40, .int "MOST_PATTERNS" 1000, .int "MOST_WIDTH" 64, .str "_LETTERS" "abcdefghijklmnopqrstuvwxyz", .str "_CHARACTERS" "abcdefghijklmnopqrstuvwxyz0123456789_", .exc "BadBreak", .exc "BadPattern", .exc "BadPaper", .exc "BadTester", .exc "BadSignature"]
def nmL : List Str := ["BadNetlist", "BadCircuit", "BadBreak", "BadPattern", "BadPaper", "BadTester", "BadSignature", "BadJob"]
def cOf (K : PySem.W.Frag) (i : Nat) : Addr := He.ga K (nmL.getD i "")
def exB (K : PySem.W.Frag) : Bool := ((List.range 8).all fun i => exvB K (cOf K i)) && (((List.range 8).all fun i => (List.range 8).all fun j => decide (PySem.W.kitOne K (.ref (cOf K i)) (.ref (cOf K j)) = some (decide (i = j)))) &&
  (((List.range 8).all fun i => decide (PySem.W.kitOne K (.ref (cOf K i)) (.ref (He.ga K "ProbeError")) = some true) && decide (PySem.W.kitOne K (.ref (cOf K i)) (.type "ValueError") = some true)) &&
  ((([0, 7] : List Nat).all fun i => decide (PySem.W.findIn K (.ref (cOf K i)) "row" = some none) && decide (PySem.W.findIn K (.ref (cOf K i)) "reason" = some none)) &&
  ((decide (PySem.W.findIn K (.ref (cOf K 1)) "reason" = some none) && decide (PySem.W.findIn K (.ref (cOf K 1)) "name" = some none)) &&
  (([0, 1, 7] : List Nat).all fun i => oexB K (cOf K i) && (decide (PySem.W.findIn K (.ref (cOf K i)) "__init__" = some (some (.ref (He.ma K (cOf K i) "__init__")))) && decide (PySem.W.typeIn K (.ref (He.ma K (cOf K i) "__init__")) = some (.type "function"))))))))
abbrev R : PySem.W.OpenRow := PySem.W.OpenLaw.row PySem.Challenge.rw_probewright_k00_errors_and_words
abbrev hk : PySem.W.Hook := He.hookX 6 faL fnL [] [] exB
def ob (s : PySem.W.SharedT) : He.AlX := He.obsX 6 faL fnL [] [] exB (HandSHeadRun.getT s)
theorem ob_eq (s : PySem.W.SharedT) : ob s = hk.obs s.abs := He.obsX_eq (HandSHeadRun.getT_eq s)
theorem sc_iBadNetlist : FnScope [("self" : Str), "row", "reason"] [("self" : Str), "row", "reason"] (defScope s_iBadNetlist) := ⟨rfl, rfl, rfl, by decide +kernel, rfl, by decide +kernel, by decide +kernel⟩
theorem xm_BadNetlist {C fI : Addr} {fd : FuncData} (F : FunD K "__init__" "BadNetlist.__init__" (defArgs s_iBadNetlist) (defBody s_iBadNetlist) (defScope s_iBadNetlist) [] [] fI fd) (hm : mg "BadNetlist" = some (.ref C)) (T : OexC K C) (iC : PySem.W.findIn K (.ref C) "__init__" = some (some (.ref fI))) (tI : PySem.W.typeIn K (.ref fI) = some (.type "function"))
    (n1 : PySem.W.findIn K (.ref C) "row" = some none) (n2 : PySem.W.findIn K (.ref C) "reason" = some none) : Xm P w K mg base "BadNetlist" C (spX2 C "row" "reason") :=
  ⟨fI, fd, [("self" : Str), "row", "reason"], hm, T, iC, tI, F.bindsN fun _ _ _ _ _ _ us hl => match us, hl with | [_, _, _], _ => rfl,
    init2 F sc_iBadNetlist T n1 n2 fun cdv A outer s H E => pss_cons (ps_ost (pv 0) (pv 1)) (pss_one (ps_ost (pv 0) (pv 2)))⟩
theorem sc_iBadCircuit : FnScope [("self" : Str), "reason", "name"] [("self" : Str), "reason", "name"] (defScope s_iBadCircuit) := ⟨rfl, rfl, rfl, by decide +kernel, rfl, by decide +kernel, by decide +kernel⟩
theorem xm_BadCircuit {C fI : Addr} {fd : FuncData} (F : FunD K "__init__" "BadCircuit.__init__" (defArgs s_iBadCircuit) (defBody s_iBadCircuit) (defScope s_iBadCircuit) [] [] fI fd) (hm : mg "BadCircuit" = some (.ref C)) (T : OexC K C) (iC : PySem.W.findIn K (.ref C) "__init__" = some (some (.ref fI))) (tI : PySem.W.typeIn K (.ref fI) = some (.type "function"))
    (n1 : PySem.W.findIn K (.ref C) "reason" = some none) (n2 : PySem.W.findIn K (.ref C) "name" = some none) : Xm P w K mg base "BadCircuit" C (spX2 C "reason" "name") :=
  ⟨fI, fd, [("self" : Str), "reason", "name"], hm, T, iC, tI, F.bindsN fun _ _ _ _ _ _ us hl => match us, hl with | [_, _, _], _ => rfl,
    init2 F sc_iBadCircuit T n1 n2 fun cdv A outer s H E => pss_cons (ps_ost (pv 0) (pv 1)) (pss_one (ps_ost (pv 0) (pv 2)))⟩
theorem sc_iBadJob : FnScope [("self" : Str), "row", "reason"] [("self" : Str), "row", "reason"] (defScope s_iBadJob) := ⟨rfl, rfl, rfl, by decide +kernel, rfl, by decide +kernel, by decide +kernel⟩
theorem xm_BadJob {C fI : Addr} {fd : FuncData} (F : FunD K "__init__" "BadJob.__init__" (defArgs s_iBadJob) (defBody s_iBadJob) (defScope s_iBadJob) [] [] fI fd) (hm : mg "BadJob" = some (.ref C)) (T : OexC K C) (iC : PySem.W.findIn K (.ref C) "__init__" = some (some (.ref fI))) (tI : PySem.W.typeIn K (.ref fI) = some (.type "function"))
    (n1 : PySem.W.findIn K (.ref C) "row" = some none) (n2 : PySem.W.findIn K (.ref C) "reason" = some none) : Xm P w K mg base "BadJob" C (spX2 C "row" "reason") :=
  ⟨fI, fd, [("self" : Str), "row", "reason"], hm, T, iC, tI, F.bindsN fun _ _ _ _ _ _ us hl => match us, hl with | [_, _, _], _ => rfl,
    init2 F sc_iBadJob T n1 n2 fun cdv A outer s H E => pss_cons (ps_ost (pv 0) (pv 1)) (pss_one (ps_ost (pv 0) (pv 2)))⟩
theorem lawOk {h : Heap} (X : K.In h) (G : h.Ns mainGlobals mg) (c : He.SaysD faL fnL K) (m : exB K = true) : ∀ base : Heap, Fn P w K mg base 5 "law" ["script"] (spF K m_law) := by
  intro base
  have T : Txt mg := {
    f_all := He.free_ok X G (c.fact 25 (f := .free "all") rfl)
    f_bool := He.free_ok X G (c.fact 26 (f := .free "bool") rfl)
    f_int := He.free_ok X G (c.fact 27 (f := .free "int") rfl)
    f_isinstance := He.free_ok X G (c.fact 28 (f := .free "isinstance") rfl)
    f_len := He.free_ok X G (c.fact 29 (f := .free "len") rfl)
    f_list := He.free_ok X G (c.fact 30 (f := .free "list") rfl)
    f_max := He.free_ok X G (c.fact 31 (f := .free "max") rfl)
    f_min := He.free_ok X G (c.fact 32 (f := .free "min") rfl)
    f_range := He.free_ok X G (c.fact 33 (f := .free "range") rfl)
    f_str := He.free_ok X G (c.fact 34 (f := .free "str") rfl)
    f_tuple := He.free_ok X G (c.fact 35 (f := .free "tuple") rfl)
    f_ValueError := He.free_ok X G (c.fact 36 (f := .free "ValueError") rfl)
    g_MOST_NAME := He.int_ok X G (c.fact 37 (f := .int "MOST_NAME" 12) rfl)
    g_MOST_PINS := He.int_ok X G (c.fact 38 (f := .int "MOST_PINS" 4) rfl)
    g_MOST_LINES := He.int_ok X G (c.fact 39 (f := .int "MOST_LINES" 400) rfl)
    g_MOST_SOURCES := He.int_ok X G (c.fact 40 (f := .int "MOST_SOURCES" 40) rfl)
    g_MOST_PATTERNS := He.int_ok X G (c.fact 41 (f := .int "MOST_PATTERNS" 1000) rfl)
    g_MOST_WIDTH := He.int_ok X G (c.fact 42 (f := .int "MOST_WIDTH" 64) rfl)
    g__LETTERS := He.str_ok X G (c.fact 43 (f := .str "_LETTERS" "abcdefghijklmnopqrstuvwxyz") rfl)
    g__CHARACTERS := He.str_ok X G (c.fact 44 (f := .str "_CHARACTERS" "abcdefghijklmnopqrstuvwxyz0123456789_") rfl) }
  have D_is_integer : Df K mg "is_integer" ["value", "least", "greatest"] s_is_integer := by
    obtain ⟨fd, F⟩ := c.def_ 0 (d := dd_is_integer) rfl
    exact ⟨_, fd, He.glo_ok X G (c.fact 0 (f := .glo "is_integer") rfl), F, F.bindsN fun _ _ _ _ _ _ us hl => match us, hl with | [_, _, _], _ => rfl⟩
  have D_is_bit : Df K mg "is_bit" ["value"] s_is_bit := by
    obtain ⟨fd, F⟩ := c.def_ 1 (d := dd_is_bit) rfl
    exact ⟨_, fd, He.glo_ok X G (c.fact 1 (f := .glo "is_bit") rfl), F, F.bindsN fun _ _ _ _ _ _ us hl => match us, hl with | [_], _ => rfl⟩
  have D_are_bits : Df K mg "are_bits" ["value", "count"] s_are_bits := by
    obtain ⟨fd, F⟩ := c.def_ 2 (d := dd_are_bits) rfl
    exact ⟨_, fd, He.glo_ok X G (c.fact 2 (f := .glo "are_bits") rfl), F, F.bindsN fun _ _ _ _ _ _ us hl => match us, hl with | [_, _], _ => rfl⟩
  have D_is_name : Df K mg "is_name" ["value"] s_is_name := by
    obtain ⟨fd, F⟩ := c.def_ 3 (d := dd_is_name) rfl
    exact ⟨_, fd, He.glo_ok X G (c.fact 3 (f := .glo "is_name") rfl), F, F.bindsN fun _ _ _ _ _ _ us hl => match us, hl with | [_], _ => rfl⟩
  have D_law_cell : Df K mg "_law_cell" ["script", "k"] s_law_cell := by
    obtain ⟨fd, F⟩ := c.def_ 4 (d := dd_law_cell) rfl
    exact ⟨_, fd, He.glo_ok X G (c.fact 4 (f := .glo "_law_cell") rfl), F, F.bindsN fun _ _ _ _ _ _ us hl => match us, hl with | [_, _], _ => rfl⟩
  have D_law_rich : Df K mg "_law_rich" ["cell", "k"] s_law_rich := by
    obtain ⟨fd, F⟩ := c.def_ 5 (d := dd_law_rich) rfl
    exact ⟨_, fd, He.glo_ok X G (c.fact 5 (f := .glo "_law_rich") rfl), F, F.bindsN fun _ _ _ _ _ _ us hl => match us, hl with | [_, _], _ => rfl⟩
  have D_law_word : Df K mg "_law_word" ["size", "chars", "seed"] s_law_word := by
    obtain ⟨fd, F⟩ := c.def_ 6 (d := dd_law_word) rfl
    exact ⟨_, fd, He.glo_ok X G (c.fact 6 (f := .glo "_law_word") rfl), F, F.bindsN fun _ _ _ _ _ _ us hl => match us, hl with | [_, _, _], _ => rfl⟩
  have D_law_printable : Df K mg "_law_printable" [] s_law_printable := by
    obtain ⟨fd, F⟩ := c.def_ 7 (d := dd_law_printable) rfl
    exact ⟨_, fd, He.glo_ok X G (c.fact 7 (f := .glo "_law_printable") rfl), F, F.bindsN fun _ _ _ _ _ _ us hl => match us, hl with | [], _ => rfl⟩
  have D_law_all_in : Df K mg "_law_all_in" ["word", "chars"] s_law_all_in := by
    obtain ⟨fd, F⟩ := c.def_ 8 (d := dd_law_all_in) rfl
    exact ⟨_, fd, He.glo_ok X G (c.fact 8 (f := .glo "_law_all_in") rfl), F, F.bindsN fun _ _ _ _ _ _ us hl => match us, hl with | [_, _], _ => rfl⟩
  have D_law_kinds : Df K mg "_law_kinds" ["e"] s_law_kinds := by
    obtain ⟨fd, F⟩ := c.def_ 9 (d := dd_law_kinds) rfl
    exact ⟨_, fd, He.glo_ok X G (c.fact 9 (f := .glo "_law_kinds") rfl), F, F.bindsN fun _ _ _ _ _ _ us hl => match us, hl with | [_], _ => rfl⟩
  have D_law_errors : Df K mg "_law_errors" ["number", "word"] s_law_errors := by
    obtain ⟨fd, F⟩ := c.def_ 10 (d := dd_law_errors) rfl
    exact ⟨_, fd, He.glo_ok X G (c.fact 10 (f := .glo "_law_errors") rfl), F, F.bindsN fun _ _ _ _ _ _ us hl => match us, hl with | [_, _], _ => rfl⟩
  have D_law_built : Df K mg "_law_built" ["rich"] s_law_built := by
    obtain ⟨fd, F⟩ := c.def_ 11 (d := dd_law_built) rfl
    exact ⟨_, fd, He.glo_ok X G (c.fact 11 (f := .glo "_law_built") rfl), F, F.bindsN fun _ _ _ _ _ _ us hl => match us, hl with | [_], _ => rfl⟩
  have D_law_is_name : Df K mg "_law_is_name" ["word"] s_law_is_name := by
    obtain ⟨fd, F⟩ := c.def_ 12 (d := dd_law_is_name) rfl
    exact ⟨_, fd, He.glo_ok X G (c.fact 12 (f := .glo "_law_is_name") rfl), F, F.bindsN fun _ _ _ _ _ _ us hl => match us, hl with | [_], _ => rfl⟩
  have D_law_same : Df K mg "_law_same" ["actual", "due"] s_law_same := by
    obtain ⟨fd, F⟩ := c.def_ 13 (d := dd_law_same) rfl
    exact ⟨_, fd, He.glo_ok X G (c.fact 13 (f := .glo "_law_same") rfl), F, F.bindsN fun _ _ _ _ _ _ us hl => match us, hl with | [_, _], _ => rfl⟩
  have D_law_plain : Df K mg "_law_plain" ["value"] s_law_plain := by
    obtain ⟨fd, F⟩ := c.def_ 14 (d := dd_law_plain) rfl
    exact ⟨_, fd, He.glo_ok X G (c.fact 14 (f := .glo "_law_plain") rfl), F, F.bindsN fun _ _ _ _ _ _ us hl => match us, hl with | [_], _ => rfl⟩
  have D_law : Df K mg "law" ["script"] s_law := by
    obtain ⟨fd, F⟩ := c.def_ 15 (d := dd_law) rfl
    exact ⟨_, fd, He.glo_ok X G (c.fact 15 (f := .glo "law") rfl), F, F.bindsN fun _ _ _ _ _ _ us hl => match us, hl with | [_], _ => rfl⟩
  unfold exB at m
  simp only [Bool.and_eq_true, List.all_eq_true, decide_eq_true_eq, List.mem_range] at m
  obtain ⟨m1, m2, m3, m4, m5, m6⟩ := m
  have L : Cl K mg (cOf K) (He.ga K "ProbeError") := {
    g_BadNetlist := He.glo_ok X G (c.fact 17 (f := .glo "BadNetlist") rfl)
    g_BadCircuit := He.glo_ok X G (c.fact 18 (f := .glo "BadCircuit") rfl)
    g_BadBreak := He.glo_ok X G (c.fact 19 (f := .glo "BadBreak") rfl)
    g_BadPattern := He.glo_ok X G (c.fact 20 (f := .glo "BadPattern") rfl)
    g_BadPaper := He.glo_ok X G (c.fact 21 (f := .glo "BadPaper") rfl)
    g_BadTester := He.glo_ok X G (c.fact 22 (f := .glo "BadTester") rfl)
    g_BadSignature := He.glo_ok X G (c.fact 23 (f := .glo "BadSignature") rfl)
    g_BadJob := He.glo_ok X G (c.fact 24 (f := .glo "BadJob") rfl)
    g_ProbeError := He.glo_ok X G (c.fact 16 (f := .glo "ProbeError") rfl)
    v := fun i hi => exvB_ok (m1 i hi)
    is := fun i j hi hj => m2 i hi j hj
    ip := fun i hi => (m3 i hi).1
    iv := fun i hi => (m3 i hi).2
    fr := fun i hi => m4 i hi
    fc := m5 }
  have X_BadNetlist : Xm P w K mg base "BadNetlist" (cOf K 0) (spX2 (cOf K 0) "row" "reason") := by
    obtain ⟨fd, F⟩ := c.def_ 16 (d := dd_iBadNetlist) rfl
    have q := m6 0 (by simp)
    exact xm_BadNetlist F L.g_BadNetlist (oexB_ok q.1) q.2.1 q.2.2 (m4 0 (by simp)).1 (m4 0 (by simp)).2
  have X_BadCircuit : Xm P w K mg base "BadCircuit" (cOf K 1) (spX2 (cOf K 1) "reason" "name") := by
    obtain ⟨fd, F⟩ := c.def_ 17 (d := dd_iBadCircuit) rfl
    have q := m6 1 (by simp)
    exact xm_BadCircuit F L.g_BadCircuit (oexB_ok q.1) q.2.1 q.2.2 m5.1 m5.2
  have X_BadJob : Xm P w K mg base "BadJob" (cOf K 7) (spX2 (cOf K 7) "row" "reason") := by
    obtain ⟨fd, F⟩ := c.def_ 18 (d := dd_iBadJob) rfl
    have q := m6 7 (by simp)
    exact xm_BadJob F L.g_BadJob (oexB_ok q.1) q.2.1 q.2.2 (m4 7 (by simp)).1 (m4 7 (by simp)).2
  have X_BadBreak : Xm0 K mg "BadBreak" (cOf K 2) := by
    have q := He.exc_ok (c.fact 45 (f := .exc "BadBreak") rfl)
    exact ⟨L.g_BadBreak, q.1, q.2.1⟩
  have X_BadPattern : Xm0 K mg "BadPattern" (cOf K 3) := by
    have q := He.exc_ok (c.fact 46 (f := .exc "BadPattern") rfl)
    exact ⟨L.g_BadPattern, q.1, q.2.1⟩
  have X_BadPaper : Xm0 K mg "BadPaper" (cOf K 4) := by
    have q := He.exc_ok (c.fact 47 (f := .exc "BadPaper") rfl)
    exact ⟨L.g_BadPaper, q.1, q.2.1⟩
  have X_BadTester : Xm0 K mg "BadTester" (cOf K 5) := by
    have q := He.exc_ok (c.fact 48 (f := .exc "BadTester") rfl)
    exact ⟨L.g_BadTester, q.1, q.2.1⟩
  have X_BadSignature : Xm0 K mg "BadSignature" (cOf K 6) := by
    have q := He.exc_ok (c.fact 49 (f := .exc "BadSignature") rfl)
    exact ⟨L.g_BadSignature, q.1, q.2.1⟩
  have G1 := k_is_integer (P := P) (w := w) (base := base) T D_is_integer
  have G2 := k_is_bit T D_is_bit G1
  have G3 := k_are_bits T D_are_bits G2
  have G4 := k_is_name (P := P) (w := w) (base := base) T D_is_name
  have G5 := k_law_cell (P := P) (w := w) (base := base) T D_law_cell
  have G6 := k_law_rich (P := P) (w := w) (base := base) T D_law_rich
  have G7 := k_law_word (P := P) (w := w) (base := base) T D_law_word
  have G8 := k_law_printable (P := P) (w := w) (base := base) T D_law_printable
  have G9 := k_law_all_in (P := P) (w := w) (base := base) T D_law_all_in
  have G10 := k_law_kinds (P := P) (w := w) (base := base) T D_law_kinds L
  have G11 := k_law_errors T D_law_errors L X_BadNetlist X_BadCircuit X_BadJob X_BadBreak X_BadPattern X_BadPaper X_BadTester X_BadSignature G10
  have G12 := k_law_built T D_law_built G7 G8
  have G13 := k_law_is_name T D_law_is_name G9
  have G14 := k_law_same (P := P) (w := w) (base := base) T D_law_same
  have G15 := k_law_plain (P := P) (w := w) (base := base) T D_law_plain
  exact (k_law T D_law G11 G5 G6 G12 G14 G13 G4 G15 G2 G3 G1).mono (by decide)
end
end K0
set_option maxHeartbeats 0
namespace K0
open PySem PySem.Spec PyProof.Rows L2 Pw
def loose1 : List PySem.Str := ["MOST_NAME", "MOST_PINS", "MOST_LINES", "MOST_SOURCES", "MOST_PATTERNS", "MOST_WIDTH", "_LETTERS", "_CHARACTERS", "is_integer", "is_bit", "are_bits", "is_name", "ProbeError", "BadNetlist", "BadCircuit", "BadBreak", "BadPattern", "BadPaper", "BadTester", "BadSignature", "BadJob", "_law_cell", "_law_rich", "_law_word", "_law_printable", "_law_all_in", "_law_kinds", "_law_errors", "_law_built", "_law_is_name", "_law_same", "_law_plain"]
theorem run (w : World) : HandSHeadRun.RunEq R (PySem.W.view R.prog [35]) hk ob 4000 loose1 w := by
  intro os
  kernel_rfl
end K0
namespace K0
open PySem PySem.Spec PyProof.Rows L2 Pw
theorem ints_data {K : PySem.W.Frag} {H : Hp} {a : Addr} {ns : List Int} (h : SqL K H a (ns.map V.int)) : Rp K H (.lst (ns.map Dt.int)) (.ref a) := ⟨a, ns.map V.int, rfl, h, RpL.ofInts⟩
theorem facts {P : Program} {w : World} {K : PySem.W.Frag} {h : Heap} {mg : Str → Option Value} {f : Addr} (X : K.In h) (G : h.Ns mainGlobals mg) (hfa : mg ("law" : Str) = some (.ref f)) (c : He.SaysD faL fnL K) (m : exB K = true) :
    ∃ fd : FuncData, (∀ (s : Shared) (v : Value), BindsTo s fd ⟨[v], []⟩ [("script", v)]) ∧ ∀ base : Heap, FnOk P w K mg base CX0 5 f fd ["script"] (spF K m_law) := by
  obtain ⟨fd, F⟩ := c.def_ 15 (d := dd_law) rfl
  have b := FunD.bindsA (ps := ["script"]) F fun _ _ _ _ _ _ us hl => match us, hl with | [_], _ => rfl
  refine ⟨fd, fun s v => b s [v] rfl, fun base => ?_⟩
  obtain ⟨f', fd', h1, _, _, h4, oc, od, osl, hl⟩ := lawOk (P := P) (w := w) X G c m base
  obtain ⟨oc2, od2, osl2, hl2⟩ := F.at_
  have e : f' = f := by
    rw [hfa] at h1
    exact (Value.ref.inj (Option.some.inj h1)).symm
  subst e
  have e2 : He.fAd K dd_law.at_ = f' := by
    have h2 := He.glo_ok X G (c.fact 15 (f := .glo "law") rfl)
    rw [hfa] at h2
    exact (Value.ref.inj (Option.some.inj h2)).symm
  rw [e2, hl] at hl2
  have e3 := Option.some.inj hl2
  injection e3 with _ _ e4 _
  injection e4 with e5
  rw [← e5]
  exact h4
end K0
open PySem PySem.W PySem.Calls PyProof.Rows
theorem PySem.Challenge.cw_probewright_k00_errors_and_words_holds : PySem.Challenge.rw_probewright_k00_errors_and_words.Holds := by
  w_on; o_law
  refine HandSHeadRun.head_any (r := OpenLaw.row PySem.Challenge.rw_probewright_k00_errors_and_words) (q := view (OpenLaw.row PySem.Challenge.rw_probewright_k00_errors_and_words).prog [35]) (H := K0.hk) (ob := K0.ob) (M := 4000) (loose := K0.loose1) (d := HandSHeadRun.topDef (OpenLaw.row PySem.Challenge.rw_probewright_k00_errors_and_words).prog 35) (kwd := []) K0.ob_eq
    (by kernel_rfl) (fun s => by kernel_rfl) K0.run (by kernel_rfl) (by kernel_rfl) (by kernel_rfl) (by rfl) (by first | assumption | decide +kernel) (by decide +kernel) ⟨rfl, rfl, rfl, rfl, rfl, by decide +kernel⟩ ?hw ?hc
  case hw => w_witness2
  case hc =>
    refine L2.walk_ofE (l := PySem.Challenge.rw_probewright_k00_errors_and_words) (n := 63) (k := 5) (x := "script") (CX := L2.CX0) rfl (by decide) (by kernel_rfl) ⟨rfl, by decide, by decide⟩ ?F (fun _ _ _ _ z => z)
    intro w mg fa h Y G hmg0
    obtain ⟨K, KX, c⟩ := Y
    have hmg : mg ("law" : PySem.Str) = some (.ref fa) := by
      have e : (HandSHeadRun.topDef (OpenLaw.row PySem.Challenge.rw_probewright_k00_errors_and_words).prog 35).name = ("law" : PySem.Str) := by kernel_rfl
      rw [← e]
      exact hmg0
    obtain ⟨fd, hb, hF⟩ := K0.facts (P := (PySem.Challenge.rw_probewright_k00_errors_and_words).prog) (w := w) KX G hmg c.t.d c.more
    refine ⟨K, fd, Pw.spF K K0.m_law, KX, hb, fun H a ns hl _ hS => ?_, fun base _ _ => hF base⟩
    refine ⟨H, [.lst (ns.map Pw.Dt.int)], .bl true, Evl.Ex.refl H, ⟨.ref a, [], rfl, K0.ints_data hS, rfl⟩, ?_, fun v F' H' _ r => r⟩
    show (if (ns.map Pw.Dt.int).all Pw.isI = true ∧ (ns.map Pw.Dt.int).length ≤ 63 then _ else none) = _
    rw [if_pos ⟨by simp [Pw.isI], by simpa using hl⟩]

