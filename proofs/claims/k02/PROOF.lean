import PyProof.Rows.All
import Wide.All
import OpenK.AllK
import Wide.FinOn
import PyProof.EqAt
import PyProof.EqKinds
import PyProof.TupleCall
import HandS.Base
import HandS.Call
import HandS.List
import HandS.Comp
import HandS.Ends
import HandS.Text
import HandS.Iter
import HandS.Exc
import HandS.Words
import HandS.WordsExc
import HandS.Defaults
import HandS.Wide
import HandS.IsInst
import HandS.Walk
import HandS.Evl
import HandS.Steps
import HandS.ExcInit
import HandS.ExcOwn
import KE.KExcIs
import HandS.HeadHook4
import HandS.Head2
import HandS.HeadEnd
import HandS.HeadWalk
import HandS.ExcValue
import HandS.SetKeys
import HandS.Star
import HandS.Dict
import HandS.DictComp
import HandS.Deep
import HandS.Style
import HandS.ExcField
import HandS.TryOnly
import HandS.TryMany
import HandS.Zip
import HandS.Codes
import HandS.TupAny
import PyProof.StrBlock2
import PySem.Challenge.RW_probewright_k02_parts_that_make_no_circu
set_option Elab.async false
set_option linter.all false
set_option maxRecDepth 100000
set_option maxHeartbeats 2000000
namespace Pw
open PySem PySem.Spec PyProof.Rows L2 Evl

/-! ### data: what a value stands for, whatever the addresses -/
inductive Dt where
  | non | bl (b : Bool) | int (i : Int) | str (x : Str)
  | tup (ds : List Dt) | lst (ds : List Dt)
  | dic (ks : List Key) (ds : List Dt) | dit (ks : List (List Key)) (ds : List Dt)
  | obj (C : Addr) (fs : List Str) (ds : List Dt)
  | exc (C : Addr) (fs : List Str) (ds : List Dt)
  | ty (n : String) | adr (a : Addr)

mutual
def Rp (K : PySem.W.Frag) (H : Hp) : Dt → V → Prop
  | .non, v => v = .non
  | .bl b, v => v = .bl b
  | .int i, v => v = .int i
  | .str x, v => v = .str x
  | .tup ds, v => ∃ a vs, v = .ref a ∧ SqT K H a vs ∧ RpL K H ds vs
  | .lst ds, v => ∃ a vs, v = .ref a ∧ SqL K H a vs ∧ RpL K H ds vs
  | .dic ks ds, v => ∃ a vs, v = .ref a ∧ H a = some (.dK (ks.zip vs)) ∧ ks.length = vs.length ∧ RpL K H ds vs
  | .dit ks ds, v => ∃ a vs, v = .ref a ∧ H a = some (.dT (ks.zip vs)) ∧ ks.length = vs.length ∧ RpL K H ds vs
  | .obj C fs ds, v => ∃ a dx vs, v = .ref a ∧ H a = some (.ins C dx (fs.zip vs)) ∧ fs.length = vs.length ∧ RpL K H ds vs
  | .exc C fs ds, v => ∃ a vs, v = .ref a ∧ fs.length = vs.length ∧ RpL K H ds vs ∧ ((fs = [] ∧ H a = some (exo a C none)) ∨ ∃ dx, H a = some (exo a C (some dx)) ∧ H dx = some (exd dx (fs.zip vs)))
  | .ty n, v => v = .ty n
  | .adr a, v => v = .ref a
def RpL (K : PySem.W.Frag) (H : Hp) : List Dt → List V → Prop
  | [], vs => vs = []
  | d :: ds, vs => ∃ v r, vs = v :: r ∧ Rp K H d v ∧ RpL K H ds r
end

section
variable {K : PySem.W.Frag} {F H F' H' : Hp}
mutual
theorem Rp.mono (e : Ex H H') : ∀ {d : Dt} {v : V}, Rp K H d v → Rp K H' d v
  | .non, _, h => h
  | .bl _, _, h => h
  | .int _, _, h => h
  | .str _, _, h => h
  | .tup ds, v, h => by
    obtain ⟨a, vs, e1, h1, h2⟩ := h
    exact ⟨a, vs, e1, ex_t e h1, RpL.mono e h2⟩
  | .lst ds, v, h => by
    obtain ⟨a, vs, e1, h1, h2⟩ := h
    exact ⟨a, vs, e1, ex_l e h1, RpL.mono e h2⟩
  | .dic ks ds, v, h => by
    obtain ⟨a, vs, e1, h1, h3, h2⟩ := h
    exact ⟨a, vs, e1, e _ _ h1, h3, RpL.mono e h2⟩
  | .dit ks ds, v, h => by
    obtain ⟨a, vs, e1, h1, h3, h2⟩ := h
    exact ⟨a, vs, e1, e _ _ h1, h3, RpL.mono e h2⟩
  | .obj C fs ds, v, h => by
    obtain ⟨a, dx, vs, e1, h1, h3, h2⟩ := h
    exact ⟨a, dx, vs, e1, e _ _ h1, h3, RpL.mono e h2⟩
  | .exc C fs ds, v, h => by
    obtain ⟨a, vs, e1, h3, h2, h1⟩ := h
    refine ⟨a, vs, e1, h3, RpL.mono e h2, ?_⟩
    rcases h1 with ⟨z, h1⟩ | ⟨dx, h1, h4⟩
    · exact .inl ⟨z, e _ _ h1⟩
    · exact .inr ⟨dx, e _ _ h1, e _ _ h4⟩
  | .ty _, _, h => h
  | .adr _, _, h => h
theorem RpL.mono (e : Ex H H') : ∀ {ds : List Dt} {vs : List V}, RpL K H ds vs → RpL K H' ds vs
  | [], _, h => h
  | d :: ds, vs, h => by
    obtain ⟨v, r, e1, h1, h2⟩ := h
    exact ⟨v, r, e1, Rp.mono e h1, RpL.mono e h2⟩
end
theorem RpL.nil : RpL K H [] [] := rfl
theorem RpL.cons {d : Dt} {ds : List Dt} {v : V} {vs : List V} (h : Rp K H d v) (t : RpL K H ds vs) : RpL K H (d :: ds) (v :: vs) := ⟨v, vs, rfl, h, t⟩
theorem RpL.length : ∀ {ds : List Dt} {vs : List V}, RpL K H ds vs → ds.length = vs.length
  | [], vs, h => by
    cases (show vs = [] from h)
    rfl
  | d :: ds, vs, h => by
    obtain ⟨v, r, rfl, _, t⟩ := h
    simp [RpL.length t]
theorem RpL.get : ∀ {ds : List Dt} {vs : List V} {i : Nat} {d : Dt}, RpL K H ds vs → ds[i]? = some d → ∃ v, vs[i]? = some v ∧ Rp K H d v
  | [], _, _, _, _, e => by simp at e
  | d :: ds, vs, 0, d', h, e => by
    obtain ⟨v, r, rfl, q, t⟩ := h
    simp at e
    subst e
    exact ⟨v, by simp, q⟩
  | d :: ds, vs, i + 1, d', h, e => by
    obtain ⟨v, r, rfl, q, t⟩ := h
    obtain ⟨w, h1, h2⟩ := RpL.get (i := i) t (by simpa using e)
    exact ⟨w, by simpa using h1, h2⟩
theorem RpL.getV : ∀ {ds : List Dt} {vs : List V} {i : Nat} {v : V}, RpL K H ds vs → vs[i]? = some v → ∃ d, ds[i]? = some d ∧ Rp K H d v
  | [], vs, _, _, h, e => by
    cases (show vs = [] from h)
    simp at e
  | d :: ds, vs, 0, w, h, e => by
    obtain ⟨v, r, rfl, q, t⟩ := h
    simp at e
    subst e
    exact ⟨d, by simp, q⟩
  | d :: ds, vs, i + 1, w, h, e => by
    obtain ⟨v, r, rfl, q, t⟩ := h
    obtain ⟨w, h1, h2⟩ := RpL.getV (i := i) t (by simpa using e)
    exact ⟨w, by simpa using h1, h2⟩
theorem RpL.append : ∀ {ds es : List Dt} {vs us : List V}, RpL K H ds vs → RpL K H es us → RpL K H (ds ++ es) (vs ++ us)
  | [], _, vs, _, h, t => by
    cases (show vs = [] from h)
    exact t
  | d :: ds, es, vs, us, h, t => by
    obtain ⟨v, r, rfl, q, s⟩ := h
    exact ⟨v, r ++ us, rfl, q, RpL.append s t⟩
theorem RpL.set : ∀ {ds : List Dt} {vs : List V} {d : Dt} {v : V} (i : Nat), RpL K H ds vs → Rp K H d v → RpL K H (ds.set i d) (vs.set i v)
  | [], vs, _, _, _, h, q => by
    cases (show vs = [] from h)
    exact rfl
  | d :: ds, vs, d', v', 0, h, q => by
    obtain ⟨v, r, rfl, _, s⟩ := h
    exact ⟨v', r, rfl, q, s⟩
  | d :: ds, vs, d', v', i + 1, h, q => by
    obtain ⟨v, r, rfl, q', s⟩ := h
    exact ⟨v, r.set i v', rfl, q', RpL.set i s q⟩
theorem RpL.take : ∀ {ds : List Dt} {vs : List V} (i : Nat), RpL K H ds vs → RpL K H (ds.take i) (vs.take i)
  | [], vs, i, h => by
    cases (show vs = [] from h)
    simp [RpL]
  | d :: ds, vs, 0, h => by simp [RpL]
  | d :: ds, vs, i + 1, h => by
    obtain ⟨v, r, rfl, q', s⟩ := h
    exact ⟨v, r.take i, rfl, q', RpL.take i s⟩
theorem RpL.drop : ∀ {ds : List Dt} {vs : List V} (i : Nat), RpL K H ds vs → RpL K H (ds.drop i) (vs.drop i)
  | [], vs, i, h => by
    cases (show vs = [] from h)
    simp [RpL]
  | d :: ds, vs, 0, h => by simpa using h
  | d :: ds, vs, i + 1, h => by
    obtain ⟨v, r, rfl, q', s⟩ := h
    simpa using RpL.drop i s
theorem RpL.of : ∀ {ds : List Dt} {vs : List V}, ds.length = vs.length → (∀ (i : Nat) (d : Dt) (v : V), ds[i]? = some d → vs[i]? = some v → Rp K H d v) → RpL K H ds vs
  | [], vs, e, _ => List.length_eq_zero_iff.mp e.symm
  | d :: ds, [], e, _ => by simp at e
  | d :: ds, v :: vs, e, h => ⟨v, vs, rfl, h 0 d v rfl rfl, RpL.of (by simpa using e) fun i d' v' h1 h2 => h (i + 1) d' v' (by simpa using h1) (by simpa using h2)⟩
/-- ints alone -/
theorem RpL.ints : ∀ {ns : List Int} {vs : List V}, RpL K H (ns.map Dt.int) vs → vs = ns.map V.int
  | [], _, h => h
  | n :: ns, vs, h => by
    obtain ⟨v, r, rfl, q, s⟩ := h
    rw [show v = V.int n from q, RpL.ints s]
    rfl
theorem RpL.ofInts : ∀ {ns : List Int}, RpL K H (ns.map Dt.int) (ns.map V.int)
  | [] => rfl
  | n :: ns => ⟨V.int n, ns.map V.int, rfl, rfl, RpL.ofInts⟩
theorem RpL.bls : ∀ {ns : List Bool} {vs : List V}, RpL K H (ns.map Dt.bl) vs → vs = ns.map V.bl
  | [], _, h => h
  | n :: ns, vs, h => by
    obtain ⟨v, r, rfl, q, s⟩ := h
    rw [show v = V.bl n from q, RpL.bls s]
    rfl
end

/-! ### two heaps: F, what is data; H, all (the own lists too). How both grow -/
structure Wk (F H F' H' : Hp) : Prop where
  f : Ex F F'
  h : Ex H H'
  s : Ex F' H'
  n : ∀ a o, H a = some o → F a = none → F' a = none
section
variable {K : PySem.W.Frag} {F H F1 H1 F2 H2 : Hp}
theorem Wk.refl (e : Ex F H) : Wk F H F H := ⟨Ex.refl F, Ex.refl H, e, fun _ _ _ h => h⟩
theorem Wk.trans (a : Wk F H F1 H1) (b : Wk F1 H1 F2 H2) : Wk F H F2 H2 :=
  ⟨a.f.trans b.f, a.h.trans b.h, b.s, fun x o h1 h2 => b.n x o (a.h x o h1) (a.n x o h1 h2)⟩
theorem none_sub (e : Ex F H) {p : Addr} (h : H p = none) : F p = none := fresh_back e h
/-- a new object that is data -/
theorem Wk.new (e : Ex F H) {p : Addr} (o : HO) (h : H p = none) : Wk F H (upd F p o) (upd H p o) :=
  ⟨Ex.new (none_sub e h), Ex.new h, fun a u q => by
    by_cases z : a = p
    · subst z
      rw [upd_same] at q ⊢
      exact q
    · rw [upd_ne z] at q ⊢
      exact e a u q, fun a u q n => by
    have z : a ≠ p := ne_of_none q h
    rw [upd_ne z]
    exact n⟩
/-- a new object of one's own -/
theorem Wk.own (e : Ex F H) {p : Addr} (o : HO) (h : H p = none) : Wk F H F (upd H p o) :=
  ⟨Ex.refl F, Ex.new h, e.trans (Ex.new h), fun _ _ _ n => n⟩
/-- .. becomes data -/
theorem Wk.give {p : Addr} {o : HO} (e : Ex F H) (w : Wk F H F1 H1) (h0 : H p = none) (h : H1 p = some o) : Wk F H (upd F1 p o) H1 :=
  ⟨fun a u q => by
    have z : a ≠ p := ne_of_none q (none_sub e h0)
    rw [upd_ne z]
    exact w.f a u q, w.h, fun a u q => by
    by_cases z : a = p
    · subst z
      rw [upd_same] at q
      rw [h, ← q]
    · rw [upd_ne z] at q
      exact w.s a u q, fun a u q n => by
    have z : a ≠ p := ne_of_none q h0
    rw [upd_ne z]
    exact w.n a u q n⟩
end

/-! ### slots -/
inductive Sl where
  | x | u | d (d : Dt) | ol (ds : List Dt)
def SlOk (K : PySem.W.Frag) (F H0 H : Hp) (v : Option V) : Sl → Prop
  | .x => True
  | .u => v = none
  | .d d => ∃ w, v = some w ∧ Rp K F d w
  | .ol ds => ∃ p vs, v = some (.ref p) ∧ F p = none ∧ H0 p = none ∧ H p = some (.lst vs) ∧ RpL K F ds vs
abbrev En := List Sl
/-- the state: F0, H0 at the def's entry, F, H now -/
structure Sm (K : PySem.W.Frag) (F0 H0 F H : Hp) (σ : L2.St) (env : En) : Prop where
  e0 : Ex F0 H0
  g : Wk F0 H0 F H
  len : σ.length = env.length
  sl : ∀ (i : Nat) (s : Sl), env[i]? = some s → ∃ v, σ[i]? = some v ∧ SlOk K F H0 H v s
  df : ∀ (i j : Nat) (ds es : List Dt) (p : Addr), i ≠ j → env[i]? = some (.ol ds) → env[j]? = some (.ol es) → σ[i]? = some (some (.ref p)) → σ[j]? ≠ some (some (.ref p))
section
variable {K : PySem.W.Frag} {F0 H0 F H F' H' : Hp} {σ : L2.St} {env env' : En}
theorem SlOk.wk {v : Option V} {s : Sl} (w : Wk F H F' H') (h : SlOk K F H0 H v s) : SlOk K F' H0 H' v s := by
  cases s with
  | x => trivial
  | u => exact h
  | d d =>
    obtain ⟨u, e, r⟩ := h
    exact ⟨u, e, r.mono w.f⟩
  | ol ds =>
    obtain ⟨p, vs, e, h1, h2, h3, h4⟩ := h
    exact ⟨p, vs, e, w.n p _ h3 h1, h2, w.h p _ h3, h4.mono w.f⟩
theorem Sm.wk (S : Sm K F0 H0 F H σ env) (w : Wk F H F' H') : Sm K F0 H0 F' H' σ env :=
  ⟨S.e0, S.g.trans w, S.len, fun i s e => by
    obtain ⟨v, h1, h2⟩ := S.sl i s e
    exact ⟨v, h1, h2.wk w⟩, S.df⟩
theorem Sm.sub (S : Sm K F0 H0 F H σ env) : Ex F H := S.g.s
/-- an object that is nobody's slot is made or changed -/
theorem Sm.upd (S : Sm K F0 H0 F H σ env) {p : Addr} (o : HO) (hF : F p = none) (h0 : H0 p = none) (hp : ∀ (i : Nat) (ds : List Dt), env[i]? = some (.ol ds) → σ[i]? ≠ some (some (.ref p))) : Sm K F0 H0 F (L2.upd H p o) σ env :=
  ⟨S.e0, ⟨S.g.f, fun a u q => by
    rw [upd_ne (ne_of_none q h0)]
    exact S.g.h a u q, fun a u q => by
    rw [upd_ne (ne_of_none q hF)]
    exact S.g.s a u q, S.g.n⟩, S.len, fun i s e => by
    obtain ⟨v, h1, h2⟩ := S.sl i s e
    refine ⟨v, h1, ?_⟩
    cases s with
    | x => trivial
    | u => exact h2
    | d d => exact h2
    | ol ds =>
      obtain ⟨q, vs, ev, g1, g2, g3, g4⟩ := h2
      have ne : q ≠ p := fun z => hp i ds e (by rw [h1, ev, z])
      exact ⟨q, vs, ev, g1, g2, by rw [upd_ne ne]; exact g3, g4⟩, S.df⟩
theorem get_set {α : Type} {l : List α} {i j : Nat} {a b : α} (h : (l.set i a)[j]? = some b) : (i = j ∧ b = a ∧ i < l.length) ∨ (i ≠ j ∧ l[j]? = some b) := by
  rw [List.getElem?_set] at h
  by_cases e : i = j
  · rw [if_pos e] at h
    by_cases l : i < l.length
    · rw [if_pos l] at h
      exact .inl ⟨e, (Option.some.inj h).symm, l⟩
    · rw [if_neg l] at h
      cases h
  · rw [if_neg e] at h
    exact .inr ⟨e, h⟩
theorem set_same {α : Type} {l : List α} {i : Nat} {a : α} (h : i < l.length) : (l.set i a)[i]? = some a := by simp [h]
theorem set_ne {α : Type} {l : List α} {i j : Nat} {a : α} (h : i ≠ j) : (l.set i a)[j]? = l[j]? := by simp [h]
/-- slot i gets data -/
theorem Sm.setD (S : Sm K F0 H0 F H σ env) {i : Nat} {d : Dt} {v : V} (r : Rp K F d v) : Sm K F0 H0 F H (σ.set i (some v)) (env.set i (.d d)) :=
  ⟨S.e0, S.g, by simp [S.len], fun j s e => by
    rcases get_set e with ⟨rfl, rfl, l⟩ | ⟨ne, e⟩
    · exact ⟨some v, set_same (by rw [S.len]; exact l), v, rfl, r⟩
    · rw [set_ne ne]
      exact S.sl j s e, fun a b ds es p ne e1 e2 h => by
    rcases get_set e1 with ⟨_, z, _⟩ | ⟨n1, e1⟩
    · cases z
    · rcases get_set e2 with ⟨_, z, _⟩ | ⟨n2, e2⟩
      · cases z
      · rw [set_ne n1] at h
        rw [set_ne n2]
        exact S.df a b ds es p ne e1 e2 h⟩
/-- slot i gets a new list of its own -/
theorem Sm.setL (S : Sm K F0 H0 F H σ env) {i : Nat} {ds : List Dt} {p : Addr} {vs : List V} (hF : F p = none) (h0 : H0 p = none) (hp : H p = some (.lst vs)) (r : RpL K F ds vs) (hn : ∀ (j : Nat) (es : List Dt), env[j]? = some (.ol es) → σ[j]? ≠ some (some (.ref p))) :
    Sm K F0 H0 F H (σ.set i (some (.ref p))) (env.set i (.ol ds)) :=
  ⟨S.e0, S.g, by simp [S.len], fun j s e => by
    rcases get_set e with ⟨rfl, rfl, l⟩ | ⟨ne, e⟩
    · exact ⟨some (.ref p), set_same (by rw [S.len]; exact l), p, vs, rfl, hF, h0, hp, r⟩
    · rw [set_ne ne]
      exact S.sl j s e, fun a b ds es q ne e1 e2 h => by
    rcases get_set e1 with ⟨ra, z1, _⟩ | ⟨n1, e1⟩
    · rcases get_set e2 with ⟨rb, z2, _⟩ | ⟨n2, e2⟩
      · exact absurd (ra.symm.trans rb) ne
      · subst ra
        rw [set_ne n2]
        have l : i < σ.length := by
          rw [S.len]
          exact (by assumption)
        rw [set_same l] at h
        cases h
        exact hn b es e2
    · rcases get_set e2 with ⟨rb, z2, l⟩ | ⟨n2, e2⟩
      · subst rb
        rw [set_ne n1] at h
        intro q2
        rw [set_same (by rw [S.len]; exact l)] at q2
        cases q2
        exact hn a ds e1 h
      · rw [set_ne n1] at h
        rw [set_ne n2]
        exact S.df a b ds es q ne e1 e2 h⟩
/-- the own list in slot i becomes data -/
theorem Sm.freeze (S : Sm K F0 H0 F H σ env) {i : Nat} {ds : List Dt} (h : env[i]? = some (.ol ds)) :
    ∃ p vs, σ[i]? = some (some (.ref p)) ∧ F p = none ∧ H p = some (.lst vs) ∧ RpL K F ds vs ∧ Sm K F0 H0 (L2.upd F p (.lst vs)) H σ (env.set i (.d (.lst ds))) := by
  obtain ⟨v, h1, p, vs, rfl, g1, g2, g3, g4⟩ := S.sl i _ h
  have ex : Ex F (L2.upd F p (.lst vs)) := Ex.new g1
  refine ⟨p, vs, h1, g1, g3, g4, S.e0, S.g.give S.e0 g2 g3, by simp [S.len], fun j s e => ?_, fun a b ds es q ne e1 e2 h => ?_⟩
  · rcases get_set e with ⟨rfl, rfl, l⟩ | ⟨ne, e⟩
    · exact ⟨_, h1, .ref p, rfl, p, vs, rfl, SqL.of upd_same, g4.mono ex⟩
    · obtain ⟨w, k1, k2⟩ := S.sl j s e
      refine ⟨w, k1, ?_⟩
      cases s with
      | x => trivial
      | u => exact k2
      | d d =>
        obtain ⟨u, e, r⟩ := k2
        exact ⟨u, e, r.mono ex⟩
      | ol es =>
        obtain ⟨q, us, eq, f1, f2, f3, f4⟩ := k2
        have nq : q ≠ p := fun z => S.df i j ds es p ne h e h1 (by rw [k1, eq, z])
        exact ⟨q, us, eq, by rw [upd_ne nq]; exact f1, f2, f3, f4.mono ex⟩
  · rcases get_set e1 with ⟨_, z, _⟩ | ⟨n1, e1⟩
    · cases z
    · rcases get_set e2 with ⟨_, z, _⟩ | ⟨n2, e2⟩
      · cases z
      · exact S.df a b ds es q ne e1 e2 h
/-- forgetting -/
def Le (a b : En) : Prop := a.length = b.length ∧ ∀ (i : Nat) (s : Sl), b[i]? = some s → s = .x ∨ a[i]? = some s
theorem Le.refl (a : En) : Le a a := ⟨rfl, fun _ _ h => .inr h⟩
theorem Le.nil : Le [] [] := Le.refl _
theorem Le.x {a b : En} {s : Sl} (h : Le a b) : Le (s :: a) (.x :: b) := ⟨by simp [h.1], fun i t e => by
  cases i with
  | zero => exact .inl (by simpa using e.symm)
  | succ i => exact h.2 i t (by simpa using e)⟩
theorem Le.s {a b : En} {s : Sl} (h : Le a b) : Le (s :: a) (s :: b) := ⟨by simp [h.1], fun i t e => by
  cases i with
  | zero => exact .inr (by simpa using e)
  | succ i => exact h.2 i t (by simpa using e)⟩
theorem Sm.le (S : Sm K F0 H0 F H σ env) (l : Le env env') : Sm K F0 H0 F H σ env' :=
  ⟨S.e0, S.g, S.len.trans l.1, fun i s e => by
    rcases l.2 i s e with rfl | z
    · have hi : i < σ.length := by
        rw [S.len, l.1]
        exact (List.getElem?_eq_some_iff.mp e).1
      exact ⟨σ[i], by simp [hi], trivial⟩
    · exact S.sl i s z, fun a b ds es p ne e1 e2 h => by
    rcases l.2 a _ e1 with z | e1
    · cases z
    · rcases l.2 b _ e2 with z | e2
      · cases z
      · exact S.df a b ds es p ne e1 e2 h⟩
end
end Pw

set_option maxHeartbeats 2000000
namespace Pw
open PySem PySem.Spec PyProof.Rows L2 Evl

/-! ### judgements -/
variable (K : PySem.W.Frag)
/-- what is done with a value d -/
abbrev Kq (F H : Hp) (d : Dt) (Q : VK) : Prop := ∀ v F' H', Wk F H F' H' → Rp K F' d v → Q v H'
abbrev KqL (F H : Hp) (ds : List Dt) (Q : List V → Hp → Prop) : Prop := ∀ vs F' H', Wk F H F' H' → RpL K F' ds vs → Q vs H'
def Ee (te : TE) (env : En) (d : Dt) : Prop := ∀ F0 H0 F H σ, Sm K F0 H0 F H σ env → ∀ Q : VK, Kq K F H d Q → te σ H Q
def Te (tt : TT) (env : En) (b : Bool) : Prop := ∀ F0 H0 F H σ, Sm K F0 H0 F H σ env → ∀ Q : Bool → Hp → Prop, (∀ F' H', Wk F H F' H' → Q b H') → tt σ H Q
def EeA (ta : TA) (env : En) (ds : List Dt) : Prop := ∀ F0 H0 F H σ, Sm K F0 H0 F H σ env → ∀ Q : List V → Hp → Prop, KqL K F H ds Q → ta σ H Q
/-- a new list of one's own -/
def EnL (te : TE) (env : En) (ds : List Dt) : Prop := ∀ F0 H0 F H σ, Sm K F0 H0 F H σ env → ∀ Q : VK, (∀ p vs F' H', Wk F H F' H' → H p = none → F' p = none → H' p = some (.lst vs) → RpL K F' ds vs → Q (.ref p) H') → te σ H Q
def Oo (to : TO) (env : En) (o : Option Int) : Prop := ∀ F0 H0 F H σ, Sm K F0 H0 F H σ env → ∀ Q : Option Int → Hp → Prop, (∀ F' H', Wk F H F' H' → Q o H') → to σ H Q
/-- operations on values -/
def R2d (r : R2) (d e z : Dt) : Prop := ∀ F H x y, Ex F H → Rp K F d x → Rp K F e y → ∀ Q : VK, Kq K F H z Q → r x y H Q
def R1d (r : V → Hp → VK → Prop) (d z : Dt) : Prop := ∀ F H x, Ex F H → Rp K F d x → ∀ Q : VK, Kq K F H z Q → r x H Q
def RLd (r : List V → Hp → VK → Prop) (ds : List Dt) (z : Dt) : Prop := ∀ F H vs, Ex F H → RpL K F ds vs → ∀ Q : VK, Kq K F H z Q → r vs H Q
def RLn (r : List V → Hp → VK → Prop) (ds es : List Dt) : Prop := ∀ F H vs, Ex F H → RpL K F ds vs → ∀ Q : VK, (∀ p us F' H', Wk F H F' H' → H p = none → F' p = none → H' p = some (.lst us) → RpL K F' es us → Q (.ref p) H') → r vs H Q
variable {K}
section
variable {env : En} {ta tb te tc : TE} {t u : TT} {d e z : Dt} {r r' : R2}
theorem ee_var {i : Nat} (h : env[i]? = some (.d d) := by rfl) : Ee K (tVar i) env d := fun F0 H0 F H σ S Q q => by
  obtain ⟨v, h1, w, rfl, r⟩ := S.sl i _ h
  exact ⟨w, h1, q w F H (Wk.refl S.sub) r⟩
theorem ee_c {v : V} (h : ∀ F, Rp K F d v) : Ee K (tC v) env d := fun F0 H0 F H σ S Q q => q v F H (Wk.refl S.sub) (h F)
theorem ee_int {i : Int} : Ee K (tC (.int i)) env (.int i) := ee_c fun _ => rfl
theorem ee_bl {b : Bool} : Ee K (tC (.bl b)) env (.bl b) := ee_c fun _ => rfl
theorem ee_str {x : Str} : Ee K (tC (.str x)) env (.str x) := ee_c fun _ => rfl
theorem ee_non : Ee K (tC .non) env .non := ee_c fun _ => rfl
theorem ee_ty {n : String} : Ee K (tC (.ty n)) env (.ty n) := ee_c fun _ => rfl
theorem ee_adr {a : Addr} : Ee K (tC (.ref a)) env (.adr a) := ee_c fun _ => rfl
theorem ee_is (h : Ee K te env d) (e' : d = e) : Ee K te env e := by
  rw [← e']
  exact h
theorem te_is {b c : Bool} (h : Te K t env b) (e' : b = c) : Te K t env c := by
  rw [← e']
  exact h
theorem ee_op (ha : Ee K ta env d) (hb : Ee K tb env e) (hr : R2d K r d e z) : Ee K (tOp r ta tb) env z := fun F0 H0 F H σ S Q q =>
  ha F0 H0 F H σ S _ fun x F1 H1 w1 r1 => hb F0 H0 F1 H1 σ (S.wk w1) _ fun y F2 H2 w2 r2 => hr F2 H2 x y w2.s (r1.mono w2.f) r2 Q fun v F3 H3 w3 r3 => q v F3 H3 ((w1.trans w2).trans w3) r3
theorem ee_un {r : V → Hp → VK → Prop} (ha : Ee K ta env d) (hr : R1d K r d z) : Ee K (tUn r ta) env z := fun F0 H0 F H σ S Q q =>
  ha F0 H0 F H σ S _ fun x F1 H1 w1 r1 => hr F1 H1 x w1.s r1 Q fun v F3 H3 w3 r3 => q v F3 H3 (w1.trans w3) r3
theorem ea_nil : EeA K tNil env [] := fun F0 H0 F H σ S Q q => q [] F H (Wk.refl S.sub) rfl
theorem ea_cons {tr : TA} {ds : List Dt} (h : Ee K te env d) (hr : EeA K tr env ds) : EeA K (tCons te tr) env (d :: ds) := fun F0 H0 F H σ S Q q =>
  h F0 H0 F H σ S _ fun x F1 H1 w1 r1 => hr F0 H0 F1 H1 σ (S.wk w1) _ fun vs F2 H2 w2 r2 => q (x :: vs) F2 H2 (w1.trans w2) ⟨x, vs, rfl, r1.mono w2.f, r2⟩
theorem ee_cb {r : List V → Hp → VK → Prop} {ta : TA} {ds : List Dt} (h : EeA K ta env ds) (hr : RLd K r ds z) : Ee K (tCB r ta) env z := fun F0 H0 F H σ S Q q =>
  h F0 H0 F H σ S _ fun vs F1 H1 w1 r1 => hr F1 H1 vs w1.s r1 Q fun v F3 H3 w3 r3 => q v F3 H3 (w1.trans w3) r3
theorem en_cb {r : List V → Hp → VK → Prop} {ta : TA} {ds es : List Dt} (h : EeA K ta env ds) (hr : RLn K r ds es) : EnL K (tCB r ta) env es := fun F0 H0 F H σ S Q q =>
  h F0 H0 F H σ S _ fun vs F1 H1 w1 r1 => hr F1 H1 vs w1.s r1 Q fun p us F3 H3 w3 n1 n2 h3 r3 => q p us F3 H3 (w1.trans w3) (fresh_back w1.h n1) n2 h3 r3
/-- a new list as data -/
theorem ee_new {ds : List Dt} (h : EnL K te env ds) : Ee K te env (.lst ds) := fun F0 H0 F H σ S Q q =>
  h F0 H0 F H σ S Q fun p vs F1 H1 w n1 n2 h1 r1 => q (.ref p) (L2.upd F1 p (.lst vs)) H1 (w.give S.sub n1 h1) ⟨p, vs, rfl, SqL.of upd_same, r1.mono (Ex.new n2)⟩
theorem ee_tup {ta : TA} {ds : List Dt} (h : EeA K ta env ds) (hl : ds.length ≤ 100000 := by exact Nat.le_of_ble_eq_true rfl) : Ee K (tTup ta) env (.tup ds) := fun F0 H0 F H σ S Q q =>
  h F0 H0 F H σ S _ fun vs F1 H1 w1 r1 => ⟨sz_of (by rw [← r1.length]; exact hl), fun p hp => q (.ref p) (L2.upd F1 p (.tup vs)) (L2.upd H1 p (.tup vs)) (w1.trans (Wk.new w1.s _ hp)) ⟨p, vs, rfl, SqT.of upd_same, r1.mono (Ex.new (none_sub w1.s hp))⟩⟩
theorem en_lst {ta : TA} {ds : List Dt} (h : EeA K ta env ds) (hl : ds.length ≤ 100000 := by exact Nat.le_of_ble_eq_true rfl) : EnL K (tLst ta) env ds := fun F0 H0 F H σ S Q q =>
  h F0 H0 F H σ S _ fun vs F1 H1 w1 r1 => ⟨sz_of (by rw [← r1.length]; exact hl), fun p hp => q p vs F1 (L2.upd H1 p (.lst vs)) (w1.trans (Wk.own w1.s _ hp)) (fresh_back w1.h hp) (none_sub w1.s hp) upd_same r1⟩
theorem ee_lst {ta : TA} {ds : List Dt} (h : EeA K ta env ds) (hl : ds.length ≤ 100000 := by exact Nat.le_of_ble_eq_true rfl) : Ee K (tLst ta) env (.lst ds) := ee_new (en_lst h hl)
theorem ee_chain {a b : Bool} {f : Dt} (ha : Ee K ta env d) (hb : Ee K tb env e) (hr : R2d K r d e (.bl a)) (hc : a = true → Ee K tc env f) (hr' : a = true → R2d K r' e f (.bl b)) : Ee K (tChain r r' ta tb tc) env (.bl (a && b)) := fun F0 H0 F H σ S Q q =>
  ha F0 H0 F H σ S _ fun x F1 H1 w1 r1 => hb F0 H0 F1 H1 σ (S.wk w1) _ fun y F2 H2 w2 r2 => hr F2 H2 x y w2.s (r1.mono w2.f) r2 _ fun v F3 H3 w3 r3 => by
    refine ⟨a, r3, ?_⟩
    cases a with
    | true =>
      show tc σ H3 _
      exact hc rfl F0 H0 F3 H3 σ (((S.wk w1).wk w2).wk w3) _ fun c F4 H4 w4 r4 => hr' rfl F4 H4 y c w4.s (r2.mono (w3.f.trans w4.f)) r4 Q fun v F5 H5 w5 r5 => q v F5 H5 (((((w1.trans w2).trans w3)).trans w4).trans w5) r5
    | false =>
      show Q (.bl false) H3
      exact q _ F3 H3 ((w1.trans w2).trans w3) rfl

/-! ### tests -/
theorem te_test {b : Bool} (h : Ee K te env (.bl b)) : Te K (tTest te) env b := fun F0 H0 F H σ S Q q => h F0 H0 F H σ S _ fun v F1 H1 w1 r1 => ⟨b, r1, q F1 H1 w1⟩
theorem te_B {b : Bool} (h : Ee K te env (.bl b)) : Te K (tB te) env b := fun F0 H0 F H σ S Q q => h F0 H0 F H σ S _ fun v F1 H1 w1 r1 => ⟨b, r1, q F1 H1 w1⟩
theorem te_and {a b : Bool} (h1 : Te K t env a) (h2 : a = true → Te K u env b) : Te K (tAnd t u) env (a && b) := fun F0 H0 F H σ S Q q => h1 F0 H0 F H σ S _ fun F1 H1 w1 => by
  cases a with
  | true =>
    show u σ H1 Q
    exact h2 rfl F0 H0 F1 H1 σ (S.wk w1) Q fun F2 H2 w2 => q F2 H2 (w1.trans w2)
  | false =>
    show Q false H1
    exact q F1 H1 w1
theorem te_or {a b : Bool} (h1 : Te K t env a) (h2 : a = false → Te K u env b) : Te K (tOr t u) env (a || b) := fun F0 H0 F H σ S Q q => h1 F0 H0 F H σ S _ fun F1 H1 w1 => by
  cases a with
  | false =>
    show u σ H1 Q
    exact h2 rfl F0 H0 F1 H1 σ (S.wk w1) Q fun F2 H2 w2 => q F2 H2 (w1.trans w2)
  | true =>
    show Q true H1
    exact q F1 H1 w1
theorem te_not {a : Bool} (h : Te K t env a) : Te K (tNot t) env (!a) := fun F0 H0 F H σ S Q q => h F0 H0 F H σ S _ fun F1 H1 w1 => q F1 H1 w1
theorem ee_and {a b : Bool} (h1 : Ee K ta env (.bl a)) (h2 : a = true → Ee K tb env (.bl b)) : Ee K (tAndV ta tb) env (.bl (a && b)) := fun F0 H0 F H σ S Q q => h1 F0 H0 F H σ S _ fun v F1 H1 w1 r1 => ⟨a, r1, by
  cases a with
  | true =>
    show tb σ H1 Q
    exact h2 rfl F0 H0 F1 H1 σ (S.wk w1) Q fun v F2 H2 w2 r2 => q v F2 H2 (w1.trans w2) r2
  | false =>
    show Q (.bl false) H1
    exact q _ F1 H1 w1 rfl⟩
theorem ee_or {a b : Bool} (h1 : Ee K ta env (.bl a)) (h2 : a = false → Ee K tb env (.bl b)) : Ee K (tOrV ta tb) env (.bl (a || b)) := fun F0 H0 F H σ S Q q => h1 F0 H0 F H σ S _ fun v F1 H1 w1 r1 => ⟨a, r1, by
  cases a with
  | false =>
    show tb σ H1 Q
    exact h2 rfl F0 H0 F1 H1 σ (S.wk w1) Q fun v F2 H2 w2 r2 => q v F2 H2 (w1.trans w2) r2
  | true =>
    show Q (.bl true) H1
    exact q _ F1 H1 w1 rfl⟩
theorem ee_not {a : Bool} (h1 : Ee K ta env (.bl a)) : Ee K (tNotV ta) env (.bl (!a)) := fun F0 H0 F H σ S Q q => h1 F0 H0 F H σ S _ fun v F1 H1 w1 r1 => ⟨a, r1, q _ F1 H1 w1 rfl⟩
theorem ee_if {b : Bool} (h : Te K t env b) (h1 : b = true → Ee K ta env d) (h2 : b = false → Ee K tb env d) : Ee K (tIf t ta tb) env d := fun F0 H0 F H σ S Q q => h F0 H0 F H σ S _ fun F1 H1 w1 => by
  cases b with
  | true =>
    show ta σ H1 Q
    exact h1 rfl F0 H0 F1 H1 σ (S.wk w1) Q fun v F2 H2 w2 r2 => q v F2 H2 (w1.trans w2) r2
  | false =>
    show tb σ H1 Q
    exact h2 rfl F0 H0 F1 H1 σ (S.wk w1) Q fun v F2 H2 w2 r2 => q v F2 H2 (w1.trans w2) r2
def truD : Dt → Option Bool
  | .non => some false
  | .bl b => some b
  | .int i => some (i != 0)
  | .tup ds => some (!ds.isEmpty)
  | .lst ds => some (!ds.isEmpty)
  | _ => none
theorem isEmpty_rp {F : Hp} {ds : List Dt} {vs : List V} (h : RpL K F ds vs) : (!ds.isEmpty) = !vs.isEmpty := by
  have := h.length
  cases ds <;> cases vs <;> simp_all
theorem te_tru {b : Bool} (h : Ee K te env d) (hb : truD d = some b) : Te K (fun σ H Q => te σ H fun x H' => ∃ k, TruV K x H' k ∧ Q k H') env b := fun F0 H0 F H σ S Q q => h F0 H0 F H σ S _ fun v F1 H1 w1 r1 => by
  refine ⟨b, ?_, q F1 H1 w1⟩
  cases d <;> simp only [truD, Option.some.injEq, reduceCtorEq] at hb
  · cases r1; exact hb.symm
  · cases r1; exact hb.symm
  · cases r1; exact hb.symm
  · obtain ⟨a, vs, rfl, h1, h2⟩ := r1
    exact .inr (.inl ⟨vs, ex_t w1.s h1, by rw [← hb, isEmpty_rp h2]⟩)
  · obtain ⟨a, vs, rfl, h1, h2⟩ := r1
    exact .inl ⟨vs, ex_l w1.s h1, by rw [← hb, isEmpty_rp h2]⟩

/-! ### own lists lent to an expression whose value holds no object -/
def flatD : Dt → Bool
  | .non | .bl _ | .int _ | .str _ | .ty _ | .adr _ => true
  | _ => false
theorem Rp.flat {F F' : Hp} {v : V} (h : Rp K F d v) (f : flatD d = true) : Rp K F' d v := by
  cases d <;> first | exact h | cases f
theorem ee_lend {i : Nat} {ds : List Dt} (hi : env[i]? = some (.ol ds)) (h : Ee K te (env.set i (.d (.lst ds))) d) (f : flatD d = true := by rfl) : Ee K te env d := fun F0 H0 F H σ S Q q => by
  obtain ⟨p, vs, h1, h2, h3, h4, S'⟩ := S.freeze hi
  exact h F0 H0 _ H σ S' Q fun v F1 H1 w r => q v F H1 ⟨Ex.refl F, w.h, S.sub.trans w.h, fun _ _ _ n => n⟩ (r.flat f)
theorem te_lend {b : Bool} {i : Nat} {ds : List Dt} (hi : env[i]? = some (.ol ds)) (h : Te K t (env.set i (.d (.lst ds))) b) : Te K t env b := fun F0 H0 F H σ S Q q => by
  obtain ⟨p, vs, h1, h2, h3, h4, S'⟩ := S.freeze hi
  exact h F0 H0 _ H σ S' Q fun F1 H1 w => q F H1 ⟨Ex.refl F, w.h, S.sub.trans w.h, fun _ _ _ n => n⟩

/-! ### operations -/
theorem r2_I0 {g : Int → Int → Int} {i j : Int} : R2d K (rI0 fun i j => .int (g i j)) (.int i) (.int j) (.int (g i j)) := fun F H x y s r1 r2 Q q => ⟨i, j, r1, r2, q _ F H (Wk.refl s) rfl⟩
theorem r2_B0 {g : Int → Int → Bool} {i j : Int} : R2d K (rI0 fun i j => .bl (g i j)) (.int i) (.int j) (.bl (g i j)) := fun F H x y s r1 r2 Q q => ⟨i, j, r1, r2, q _ F H (Wk.refl s) rfl⟩
theorem r2_I {C : Int → Int → Prop} {g : Int → Int → Int} {i j : Int} (c : C i j) : R2d K (rI C fun i j => .int (g i j)) (.int i) (.int j) (.int (g i j)) := fun F H x y s r1 r2 Q q => ⟨i, j, r1, r2, c, q _ F H (Wk.refl s) rfl⟩
theorem r1_U {g : Int → Int} {i : Int} : R1d K (rU fun i => .int (g i)) (.int i) (.int (g i)) := fun F H x s r1 Q q => ⟨i, r1, q _ F H (Wk.refl s) rfl⟩
/-- a value that holds no object -/
def fl : Dt → V
  | .non => .non
  | .bl b => .bl b
  | .int i => .int i
  | .str x => .str x
  | .ty n => .ty n
  | .adr a => .ref a
  | _ => .non
theorem Rp.fl {F : Hp} {v : V} (h : Rp K F d v) (f : flatD d = true) : v = Pw.fl d := by
  cases d <;> first | exact h | cases f
theorem r2_eq (fd : flatD d = true := by rfl) (fe : flatD e = true := by rfl) (hs : scal (fl d) (fl e) = true := by rfl) : R2d K rEq d e (.bl (decide (fl d = fl e))) := fun F H x y s r1 r2 Q q => by
  rw [r1.fl fd, r2.fl fe]
  exact ⟨hs, q _ F H (Wk.refl s) rfl⟩
theorem r2_ne (fd : flatD d = true := by rfl) (fe : flatD e = true := by rfl) (hs : scal (fl d) (fl e) = true := by rfl) : R2d K rNe d e (.bl (!decide (fl d = fl e))) := fun F H x y s r1 r2 Q q => by
  rw [r1.fl fd, r2.fl fe]
  exact ⟨hs, q _ F H (Wk.refl s) rfl⟩
theorem r2_eqI {i j : Int} : R2d K rEq (.int i) (.int j) (.bl (decide (i = j))) := fun F H x y s r1 r2 Q q => by
  cases r1; cases r2
  exact ⟨rfl, q _ F H (Wk.refl s) (by show V.bl _ = V.bl _; simp)⟩
theorem r2_neI {i j : Int} : R2d K rNe (.int i) (.int j) (.bl (!decide (i = j))) := fun F H x y s r1 r2 Q q => by
  cases r1; cases r2
  exact ⟨rfl, q _ F H (Wk.refl s) (by show V.bl _ = V.bl _; simp)⟩
theorem r2_eqS {i j : Str} : R2d K rEq (.str i) (.str j) (.bl (decide (i = j))) := fun F H x y s r1 r2 Q q => by
  cases r1; cases r2
  exact ⟨rfl, q _ F H (Wk.refl s) (by show V.bl _ = V.bl _; simp)⟩
theorem r2_neS {i j : Str} : R2d K rNe (.str i) (.str j) (.bl (!decide (i = j))) := fun F H x y s r1 r2 Q q => by
  cases r1; cases r2
  exact ⟨rfl, q _ F H (Wk.refl s) (by show V.bl _ = V.bl _; simp)⟩
/-- items -/
theorem r2_ixL {ds : List Dt} {i : Int} {j : Nat} (hj : ixN ds.length i = some j) (h : ds[j]? = some z) : R2d K (rIxL K) (.lst ds) (.int i) z := fun F H x y s r1 r2 Q q => by
  obtain ⟨a, vs, rfl, h1, h2⟩ := r1
  obtain ⟨v, g1, g2⟩ := h2.get h
  exact ⟨a, vs, i, v, rfl, r2, ex_l s h1, by unfold atI; rw [← h2.length, hj]; exact g1, q v F H (Wk.refl s) g2⟩
theorem r2_ixT {ds : List Dt} {i : Int} {j : Nat} (hj : ixN ds.length i = some j) (h : ds[j]? = some z) : R2d K (rIxT K) (.tup ds) (.int i) z := fun F H x y s r1 r2 Q q => by
  obtain ⟨a, vs, rfl, h1, h2⟩ := r1
  obtain ⟨v, g1, g2⟩ := h2.get h
  exact ⟨a, vs, i, v, rfl, r2, ex_t s h1, by unfold atI; rw [← h2.length, hj]; exact g1, q v F H (Wk.refl s) g2⟩
theorem ixN_at {n : Nat} {i : Int} (h0 : 0 ≤ i) (h1 : i < n) : ixN n i = some i.toNat := by
  have h := ixN_nat (n := n) (j := i.toNat) (by omega)
  rw [show ((i.toNat : Nat) : Int) = i by omega] at h
  exact h
theorem r2_ixS {w : Str} {i : Int} {c : Nat} (hl : w.length ≤ 100000) (h : atI w.cps.toList i = some c) : R2d K rIxS (.str w) (.int i) (.str ⟨#[c]⟩) := fun F H x y s r1 r2 Q q => by
  cases r1; cases r2
  exact ⟨w, i, c, rfl, rfl, sz_of hl, h, q _ F H (Wk.refl s) rfl⟩
theorem r2_addS {v w : Str} (hl : v.length + w.length ≤ 100000) : R2d K (fun x y H Q => ∃ i j, x = .str i ∧ y = .str j ∧ i.length + j.length ≤ sizeLine ∧ Q (.str (i ++ j)) H) (.str v) (.str w) (.str (v ++ w)) := fun F H x y s r1 r2 Q q => by
  cases r1; cases r2
  exact ⟨v, w, rfl, rfl, sz_of hl, q _ F H (Wk.refl s) rfl⟩
/-- a written sign in a text -/
theorem r2_inS {c : Nat} {w : Str} : R2d K rInS (.str ⟨#[c]⟩) (.str w) (.bl (decide (c ∈ w.cps.toList))) := fun F H x y s r1 r2 Q q => by
  cases r1; cases r2
  exact ⟨c, w, rfl, rfl, q _ F H (Wk.refl s) rfl⟩
theorem r2_niS {c : Nat} {w : Str} : R2d K rNotInS (.str ⟨#[c]⟩) (.str w) (.bl (!decide (c ∈ w.cps.toList))) := fun F H x y s r1 r2 Q q => by
  cases r1; cases r2
  exact ⟨c, w, rfl, rfl, q _ F H (Wk.refl s) rfl⟩
/-- in over a list or tuple of plain values -/
theorem RpL.fl {F : Hp} : ∀ {ds : List Dt} {vs : List V}, RpL K F ds vs → ds.all flatD = true → vs = ds.map Pw.fl
  | [], _, h, _ => h
  | d :: ds, vs, h, f => by
    obtain ⟨v, r, rfl, q, s⟩ := h
    rw [List.all_cons, Bool.and_eq_true] at f
    rw [q.fl f.1, RpL.fl s f.2]
    rfl
theorem r2_in {neg : Bool} {ds : List Dt} (fd : flatD d = true) (fs : ds.all flatD = true) (gd : flatV (fl d) = true) (gs : (ds.map fl).all flatV = true) :
    R2d K (rIn K neg) d (.lst ds) (.bl (if neg then !inV (fl d) (ds.map fl) else inV (fl d) (ds.map fl))) := fun F H x y s r1 r2 Q q => by
  obtain ⟨a, vs, rfl, h1, h2⟩ := r2
  rw [r1.fl fd]
  rw [h2.fl fs] at h1
  exact ⟨a, _, rfl, .inl (ex_l s h1), gd, gs, q _ F H (Wk.refl s) rfl⟩
theorem r2_inT {neg : Bool} {ds : List Dt} (fd : flatD d = true) (fs : ds.all flatD = true) (gd : flatV (fl d) = true) (gs : (ds.map fl).all flatV = true) :
    R2d K (rIn K neg) d (.tup ds) (.bl (if neg then !inV (fl d) (ds.map fl) else inV (fl d) (ds.map fl))) := fun F H x y s r1 r2 Q q => by
  obtain ⟨a, vs, rfl, h1, h2⟩ := r2
  rw [r1.fl fd]
  rw [h2.fl fs] at h1
  exact ⟨a, _, rfl, .inr (ex_t s h1), gd, gs, q _ F H (Wk.refl s) rfl⟩
/-! == of data -/
mutual
def py : Dt → Option PyData
  | .non => some .none
  | .bl b => some (.bool b)
  | .int i => some (.int i)
  | .str x => some (.str x)
  | .tup ds => (pyL ds).map .tuple
  | .lst ds => (pyL ds).map .list
  | _ => none
def pyL : List Dt → Option (List PyData)
  | [] => some []
  | d :: ds => match py d, pyL ds with
    | some p, some ps => some (p :: ps)
    | _, _ => none
end
mutual
theorem Rp.dp {F : Hp} : ∀ {d : Dt} {v : V} {p : PyData}, Rp K F d v → py d = some p → Dp K F v p
  | .non, v, p, h, e => by cases e; cases h; exact .non
  | .bl b, v, p, h, e => by cases e; cases h; exact .bl b
  | .int b, v, p, h, e => by cases e; cases h; exact .int b
  | .str b, v, p, h, e => by cases e; cases h; exact .str b
  | .tup ds, v, p, h, e => by
    obtain ⟨a, vs, rfl, h1, h2⟩ := h
    cases q : pyL ds with
    | none => simp [py, q] at e
    | some ps =>
      simp [py, q] at e
      subst e
      exact .tup h1 (RpL.dp h2 q)
  | .lst ds, v, p, h, e => by
    obtain ⟨a, vs, rfl, h1, h2⟩ := h
    cases q : pyL ds with
    | none => simp [py, q] at e
    | some ps =>
      simp [py, q] at e
      subst e
      exact .lst h1 (RpL.dp h2 q)
  | .dic _ _, _, _, _, e => by simp [py] at e
  | .dit _ _, _, _, _, e => by simp [py] at e
  | .obj _ _ _, _, _, _, e => by simp [py] at e
  | .exc _ _ _, _, _, _, e => by simp [py] at e
  | .ty _, _, _, _, e => by simp [py] at e
  | .adr _, _, _, _, e => by simp [py] at e
theorem RpL.dp {F : Hp} : ∀ {ds : List Dt} {vs : List V} {ps : List PyData}, RpL K F ds vs → pyL ds = some ps → DpAll K F vs ps
  | [], vs, ps, h, e => by
    cases e
    cases (show vs = [] from h)
    exact .nil
  | d :: ds, vs, ps, h, e => by
    obtain ⟨v, r, rfl, q, s⟩ := h
    cases e1 : py d with
    | none => simp [pyL, e1] at e
    | some p =>
      cases e2 : pyL ds with
      | none => simp [pyL, e1, e2] at e
      | some ps' =>
        simp [pyL, e1, e2] at e
        subst e
        exact .cons (Rp.dp q e1) (RpL.dp s e2)
end
mutual
theorem dp_mono {H H' : Hp} (e : Ex H H') : ∀ {p : PyData} {v : V}, Dp K H v p → Dp K H' v p
  | .none, _, h => by cases h; exact .non
  | .bool b, _, h => by cases h; exact .bl b
  | .int b, _, h => by cases h; exact .int b
  | .str b, _, h => by cases h; exact .str b
  | .list ds, _, h => by
    cases h with
    | lst h1 h2 => exact .lst (ex_l e h1) (dpAll_mono e h2)
  | .tuple ds, _, h => by
    cases h with
    | tup h1 h2 => exact .tup (ex_t e h1) (dpAll_mono e h2)
  | .dict _, _, h => by cases h
theorem dpAll_mono {H H' : Hp} (e : Ex H H') : ∀ {ps : List PyData} {vs : List V}, DpAll K H vs ps → DpAll K H' vs ps
  | [], _, h => by cases h; exact .nil
  | p :: ps, _, h => by
    cases h with
    | cons h1 h2 => exact .cons (dp_mono e h1) (dpAll_mono e h2)
end
theorem r2_eqD {p q : PyData} (hp : py d = some p) (hq : py e = some q) (sp : SeqAt.shaped p = true) (sq : SeqAt.shaped q = true) : R2d K (rEqD K) d e (.bl (PyData.eqv p q)) := fun F H x y s r1 r2 Q k =>
  ⟨p, q, dp_mono s (r1.dp hp), dp_mono s (r2.dp hq), sp, sq, k _ F H (Wk.refl s) rfl⟩
theorem r2_neD {p q : PyData} (hp : py d = some p) (hq : py e = some q) (sp : SeqAt.shaped p = true) (sq : SeqAt.shaped q = true) : R2d K (rNeD K) d e (.bl (!PyData.eqv p q)) := fun F H x y s r1 r2 Q k =>
  ⟨p, q, dp_mono s (r1.dp hp), dp_mono s (r2.dp hq), sp, sq, k _ F H (Wk.refl s) rfl⟩
end
end Pw

set_option maxHeartbeats 2000000
namespace Pw
open PySem PySem.Spec PyProof.Rows L2 Evl

/-! ### a def that is a function of data -/
def spF (K : PySem.W.Frag) (f : List Dt → Option Dt) : Sp := fun vs H Q _ => ∃ F ds d, Ex F H ∧ RpL K F ds vs ∧ f ds = some d ∧ Kq K F H d Q
section
variable {K : PySem.W.Frag} {env : En} {ta tb te tc : TE} {t u : TT} {d e z : Dt} {f : List Dt → Option Dt}
theorem ee_call {tA : TA} {ds : List Dt} {E : XK} (h : EeA K tA env ds) (hf : f ds = some d) : Ee K (tCall (spF K f) [] E tA) env d := fun F0 H0 F H σ S Q q =>
  h F0 H0 F H σ S _ fun vs F1 H1 w1 r1 => ⟨F1, ds, d, w1.s, by rw [List.append_nil]; exact r1, hf, fun v F2 H2 w2 r2 => q v F2 H2 (w1.trans w2) r2⟩
theorem spF_len {n : Nat} (hf : ∀ ds d, f ds = some d → ds.length = n) (vs : List V) (H : Hp) (Q : VK) (E : XK) (h : spF K f vs H Q E) : vs.length = n := by
  obtain ⟨F, ds, d, _, r, e, _⟩ := h
  rw [← r.length]
  exact hf ds d e

/-! ### statements -/
inductive Out where
  | nx (e : En) | ct (e : En) | nc (e : En) | bk (e : En) | rt (d : Dt)
def Po (K : PySem.W.Frag) (F0 H0 F : Hp) (D : Ends) : Out → Prop
  | .nx e => ∀ F' H' σ', Ex F F' → Sm K F0 H0 F' H' σ' e → D.nx σ' H'
  | .ct e => ∀ F' H' σ', Ex F F' → Sm K F0 H0 F' H' σ' e → D.ct σ' H'
  | .nc e => ∀ F' H' σ', Ex F F' → Sm K F0 H0 F' H' σ' e → D.nx σ' H' ∧ D.ct σ' H'
  | .bk e => ∀ F' H' σ', Ex F F' → Sm K F0 H0 F' H' σ' e → D.bk σ' H'
  | .rt d => ∀ v F' H', Wk F0 H0 F' H' → Rp K F' d v → D.rt v H'
def Se (K : PySem.W.Frag) (t : TS) (env : En) (o : Out) : Prop := ∀ F0 H0 F H σ D, Sm K F0 H0 F H σ env → Po K F0 H0 F D o → t D σ H
def Ge (K : PySem.W.Frag) (g : TG) (d : Dt) (env env' : En) : Prop := ∀ F0 H0 F H σ v, Sm K F0 H0 F H σ env → Rp K F d v → ∀ Q : L2.St → Hp → Prop, (∀ σ', Sm K F0 H0 F H σ' env' → Q σ' H) → g v σ H Q
variable {s s1 s2 : TS} {o : Out} {env1 env2 : En} {g : TG}
theorem Po.ex {F0 H0 F F' : Hp} {D : Ends} (e : Ex F F') (p : Po K F0 H0 F D o) : Po K F0 H0 F' D o := by
  cases o with
  | nx e1 => exact fun F2 H2 σ2 e2 S => p F2 H2 σ2 (e.trans e2) S
  | ct e1 => exact fun F2 H2 σ2 e2 S => p F2 H2 σ2 (e.trans e2) S
  | nc e1 => exact fun F2 H2 σ2 e2 S => p F2 H2 σ2 (e.trans e2) S
  | bk e1 => exact fun F2 H2 σ2 e2 S => p F2 H2 σ2 (e.trans e2) S
  | rt d => exact p
theorem ge_name {i : Nat} : Ge K (gName i) d env (env.set i (.d d)) := fun F0 H0 F H σ v S r Q q => q _ (S.setD r)
theorem se_asgG (h : Ee K te env d) (hg : Ge K g d env env1) : Se K (tAsg te g) env (.nx env1) := fun F0 H0 F H σ D S p =>
  h F0 H0 F H σ S _ fun v F1 H1 w r => hg F0 H0 F1 H1 σ v (S.wk w) r _ fun σ' S' => p F1 H1 σ' w.f S'
theorem se_asg {i : Nat} (h : Ee K te env d) : Se K (tAsg te (gName i)) env (.nx (env.set i (.d d))) := se_asgG h ge_name
theorem Sm.setU {F0 H0 F H : Hp} {σ : L2.St} (S : Sm K F0 H0 F H σ env) (i : Nat) : Sm K F0 H0 F H (σ.set i none) (env.set i .u) :=
  ⟨S.e0, S.g, by simp [S.len], fun j s e => by
    rcases get_set e with ⟨rfl, rfl, l⟩ | ⟨ne, e⟩
    · exact ⟨none, set_same (by rw [S.len]; exact l), rfl⟩
    · rw [set_ne ne]
      exact S.sl j s e, fun a b ds es p ne e1 e2 h => by
    rcases get_set e1 with ⟨_, z, _⟩ | ⟨n1, e1⟩
    · cases z
    · rcases get_set e2 with ⟨_, z, _⟩ | ⟨n2, e2⟩
      · cases z
      · rw [set_ne n1] at h
        rw [set_ne n2]
        exact S.df a b ds es p ne e1 e2 h⟩
/-- x = a new list that will be changed -/
theorem se_own {i : Nat} {ds : List Dt} (h : EnL K te env ds) : Se K (tAsg te (gName i)) env (.nx (env.set i (.ol ds))) := fun F0 H0 F H σ D S p =>
  h F0 H0 F H σ S _ fun a vs F1 H1 w n1 n2 h1 r => p F1 H1 _ w.f ((S.wk w).setL n2 (none_sub S.g.h n1) h1 r fun j es e z => by
    obtain ⟨v, k1, p, us, rfl, _, _, k3, _⟩ := S.sl j _ e
    rw [k1] at z
    cases z
    rw [n1] at k3
    cases k3)
theorem se_ret (h : Ee K te env d) : Se K (tRet te) env (.rt d) := fun F0 H0 F H σ D S p => h F0 H0 F H σ S _ fun v F1 H1 w r => p v F1 H1 (S.g.trans w) r
theorem se_retN : Se K tRetN env (.rt .non) := fun F0 H0 F H σ D S p => p _ F H S.g rfl
theorem se_next : Se K tNext env (.nx env) := fun F0 H0 F H σ D S p => p F H σ (Ex.refl F) S
theorem se_break : Se K tBreak env (.bk env) := fun F0 H0 F H σ D S p => p F H σ (Ex.refl F) S
theorem se_cont : Se K tCont env (.ct env) := fun F0 H0 F H σ D S p => p F H σ (Ex.refl F) S
theorem se_drop (h : Ee K te env d) : Se K (tDrop te) env (.nx env) := fun F0 H0 F H σ D S p => h F0 H0 F H σ S _ fun v F1 H1 w r => p F1 H1 σ w.f (S.wk w)
theorem se_seq (h1 : Se K s1 env (.nx env1)) (h2 : Se K s2 env1 o) : Se K (tSeq s1 s2) env o := fun F0 H0 F H σ D S p =>
  h1 F0 H0 F H σ _ S fun F1 H1 σ1 e1 S1 => h2 F0 H0 F1 H1 σ1 D S1 (p.ex e1)
theorem se_seqR (h1 : Se K s1 env (.rt d)) : Se K (tSeq s1 s2) env (.rt d) := fun F0 H0 F H σ D S p => h1 F0 H0 F H σ _ S p
theorem se_seqB (h1 : Se K s1 env (.bk env1)) : Se K (tSeq s1 s2) env (.bk env1) := fun F0 H0 F H σ D S p => h1 F0 H0 F H σ _ S p
theorem se_seqC (h1 : Se K s1 env (.ct env1)) : Se K (tSeq s1 s2) env (.ct env1) := fun F0 H0 F H σ D S p => h1 F0 H0 F H σ _ S p
theorem se_nc (h : Se K s env (.nx env1)) : Se K s env (.nc env1) := fun F0 H0 F H σ D S p => h F0 H0 F H σ D S fun F1 H1 σ1 e1 S1 => (p F1 H1 σ1 e1 S1).1
theorem se_cc (h : Se K s env (.ct env1)) : Se K s env (.nc env1) := fun F0 H0 F H σ D S p => h F0 H0 F H σ D S fun F1 H1 σ1 e1 S1 => (p F1 H1 σ1 e1 S1).2
theorem se_if {b : Bool} (h : Te K t env b) (h1 : b = true → Se K s1 env o) (h2 : b = false → Se K s2 env o) : Se K (tIfS t s1 s2) env o := fun F0 H0 F H σ D S p => h F0 H0 F H σ S _ fun F1 H1 w => by
  cases b with
  | true =>
    show s1 D σ H1
    exact h1 rfl F0 H0 F1 H1 σ D (S.wk w) (p.ex w.f)
  | false =>
    show s2 D σ H1
    exact h2 rfl F0 H0 F1 H1 σ D (S.wk w) (p.ex w.f)
/-- if t: s1 (no else), then s2 -/
theorem se_when {b : Bool} (h : Te K t env b) (h1 : b = true → Se K (tSeq s1 s2) env o) (h2 : b = false → Se K s2 env o) : Se K (tSeq (tIfS t s1 tNext) s2) env o := fun F0 H0 F H σ D S p => h F0 H0 F H σ S _ fun F1 H1 w => by
  cases b with
  | true =>
    show s1 { D with nx := s2 D } σ H1
    exact h1 rfl F0 H0 F1 H1 σ D (S.wk w) (p.ex w.f)
  | false =>
    show s2 D σ H1
    exact h2 rfl F0 H0 F1 H1 σ D (S.wk w) (p.ex w.f)
/-- if t: s1 else: s2, then s -/
theorem se_ifq {b : Bool} (h : Te K t env b) (h1 : b = true → Se K (tSeq s1 s) env o) (h2 : b = false → Se K (tSeq s2 s) env o) : Se K (tSeq (tIfS t s1 s2) s) env o := fun F0 H0 F H σ D S p => h F0 H0 F H σ S _ fun F1 H1 w => by
  cases b with
  | true =>
    show s1 { D with nx := s D } σ H1
    exact h1 rfl F0 H0 F1 H1 σ D (S.wk w) (p.ex w.f)
  | false =>
    show s2 { D with nx := s D } σ H1
    exact h2 rfl F0 H0 F1 H1 σ D (S.wk w) (p.ex w.f)
theorem se_le (h : Se K s env (.nx env1)) (l : Le env1 env2) : Se K s env (.nx env2) := fun F0 H0 F H σ D S p => h F0 H0 F H σ D S fun F1 H1 σ1 e1 S1 => p F1 H1 σ1 e1 (S1.le l)
theorem se_lec (h : Se K s env (.nc env1)) (l : Le env1 env2) : Se K s env (.nc env2) := fun F0 H0 F H σ D S p => h F0 H0 F H σ D S fun F1 H1 σ1 e1 S1 => p F1 H1 σ1 e1 (S1.le l)
theorem se_pre (l : Le env env1) (h : Se K s env1 o) : Se K s env o := fun F0 H0 F H σ D S p => h F0 H0 F H σ D (S.le l) p
theorem se_freeze {i : Nat} {ds : List Dt} (hi : env[i]? = some (.ol ds)) (h : Se K s (env.set i (.d (.lst ds))) o) : Se K s env o := fun F0 H0 F H σ D S p => by
  obtain ⟨a, vs, h1, h2, h3, h4, S'⟩ := S.freeze hi
  exact h F0 H0 _ H σ D S' (p.ex (Ex.new h2))
theorem se_is (h : Se K s env o) {o' : Out} (e : o = o') : Se K s env o' := by
  rw [← e]
  exact h
/-! own lists changed -/
theorem Sm.mutL {F0 H0 F H : Hp} {σ : L2.St} (S : Sm K F0 H0 F H σ env) {i : Nat} {ds es : List Dt} {p : Addr} {us : List V} (hi : env[i]? = some (.ol ds)) (hp : σ[i]? = some (some (.ref p))) (r : RpL K F es us) :
    Sm K F0 H0 F (L2.upd H p (.lst us)) σ (env.set i (.ol es)) := by
  obtain ⟨v, h1, q, vs, rfl, g1, g2, g3, g4⟩ := S.sl i _ hi
  rw [hp] at h1
  cases h1
  refine ⟨S.e0, ⟨S.g.f, fun a u z => ?_, fun a u z => ?_, S.g.n⟩, by simp [S.len], fun j s e => ?_, fun a b ds1 es1 q ne e1 e2 h => ?_⟩
  · rw [upd_ne (ne_of_none z g2)]
    exact S.g.h a u z
  · rw [upd_ne (ne_of_none z g1)]
    exact S.g.s a u z
  · rcases get_set e with ⟨rfl, rfl, l⟩ | ⟨ne, e⟩
    · exact ⟨_, hp, p, us, rfl, g1, g2, upd_same, r⟩
    · obtain ⟨w, k1, k2⟩ := S.sl j s e
      refine ⟨w, k1, ?_⟩
      cases s with
      | x => trivial
      | u => exact k2
      | d d => exact k2
      | ol es1 =>
        obtain ⟨q, us1, eq, f1, f2, f3, f4⟩ := k2
        have nq : q ≠ p := fun z => S.df i j ds es1 p ne hi e hp (by rw [k1, eq, z])
        exact ⟨q, us1, eq, f1, f2, by rw [upd_ne nq]; exact f3, f4⟩
  · rcases get_set e1 with ⟨ra, z1, _⟩ | ⟨n1, e1⟩
    · rcases get_set e2 with ⟨rb, z2, _⟩ | ⟨n2, e2⟩
      · exact absurd (ra.symm.trans rb) ne
      · subst ra
        exact S.df i b ds es1 q ne hi e2 h
    · rcases get_set e2 with ⟨rb, z2, _⟩ | ⟨n2, e2⟩
      · subst rb
        exact S.df a i ds1 ds q ne e1 hi h
      · exact S.df a b ds1 es1 q ne e1 e2 h
theorem se_app {i : Nat} {ds : List Dt} (hi : env[i]? = some (.ol ds)) (h : Ee K te env d) (hz : ds.length < 100000) : Se K (tDrop (tBM K "list" rAppend (tVar i) (tCons te tNil))) env (.nx (env.set i (.ol (ds ++ [d])))) := fun F0 H0 F H σ D S p => by
  obtain ⟨v, h1, a, vs, rfl, g1, g2, g3, g4⟩ := S.sl i _ hi
  refine ⟨_, h1, .inl ⟨rfl, vs, sq_of g3⟩, h F0 H0 F H σ S _ fun v F1 H1 w r => ⟨a, vs, v, rfl, rfl, w.h a _ g3, sz_lt (by rw [← g4.length]; exact hz), ?_⟩⟩
  exact p F1 _ σ w.f ((S.wk w).mutL hi h1 (RpL.append (g4.mono w.f) (RpL.cons r RpL.nil)))
theorem se_setL {i : Nat} {ds : List Dt} {k : Int} {n : Nat} (hi : env[i]? = some (.ol ds)) (h : Ee K te env d) (hk : Ee K tb env (.int k)) (hn : ixN ds.length k = some n) : Se K (tAsg te (gSub (tVar i) tb rSetL)) env (.nx (env.set i (.ol (ds.set n d)))) := fun F0 H0 F H σ D S p => by
  obtain ⟨v, h1, a, vs, rfl, g1, g2, g3, g4⟩ := S.sl i _ hi
  refine h F0 H0 F H σ S _ fun v F1 H1 w r => ⟨_, h1, hk F0 H0 F1 H1 σ (S.wk w) _ fun kv F2 H2 w2 r2 => ⟨a, vs, k, n, rfl, r2, w2.h a _ (w.h a _ g3), by rw [← g4.length]; exact hn, ?_⟩⟩
  exact p F2 _ σ (w.f.trans w2.f) (((S.wk w).wk w2).mutL hi h1 (RpL.set n (g4.mono (w.f.trans w2.f)) (r.mono w2.f)))

/-! ### a def's body -/
theorem Sm.start {F H : Hp} {ds : List Dt} {vs : List V} {N : List Str} (e : Ex F H) (r : RpL K F ds vs) : Sm K F H F H (L2.start N vs) (ds.map Sl.d ++ List.replicate (N.length - ds.length) Sl.u) := by
  have hl := r.length
  refine ⟨e, Wk.refl e, by simp [L2.start, hl], fun i s h => ?_, fun i j es fs p ne e1 e2 _ => ?_⟩
  · unfold L2.start
    by_cases hi : i < ds.length
    · rw [List.getElem?_append_left (by simpa using hi), List.getElem?_map] at h
      cases q : ds[i]? with
      | none => rw [q] at h; cases h
      | some d =>
        rw [q] at h
        cases h
        obtain ⟨v, h1, h2⟩ := r.get q
        exact ⟨some v, by rw [List.getElem?_append_left (by simp; omega), List.getElem?_map, h1]; rfl, v, rfl, h2⟩
    · rw [List.getElem?_append_right (by simpa using hi), List.length_map, List.getElem?_replicate] at h
      split at h
      · rename_i lt
        cases h
        exact ⟨none, by rw [List.getElem?_append_right (by simp; omega), List.length_map, List.getElem?_replicate, if_pos (by omega)], rfl⟩
      · cases h
  · by_cases hi : i < ds.length
    · rw [List.getElem?_append_left (by simpa using hi), List.getElem?_map] at e1
      cases q : ds[i]? <;> rw [q] at e1 <;> cases e1
    · rw [List.getElem?_append_right (by simpa using hi), List.length_map, List.getElem?_replicate] at e1
      split at e1 <;> cases e1
theorem run_rt {s : TS} {N : List Str} {vs : List V} {H : Hp} {Q : VK} {E : XK} (h : spF K f vs H Q E) (b : ∀ ds d, f ds = some d → Se K s (ds.map Sl.d ++ List.replicate (N.length - ds.length) Sl.u) (.rt d)) : s { nx := fun _ H' => Q .non H', rt := Q } (L2.start N vs) H := by
  obtain ⟨F, ds, d, e, r, hf, q⟩ := h
  exact b ds d hf F H F H _ _ (Sm.start e r) fun v F' H' w r' => q v F' H' w r'
theorem se_end {env1 : En} (h : Se K s env (.nx env1)) : ∀ F0 H0 F H σ (Q : VK), Sm K F0 H0 F H σ env → Kq K F0 H0 .non Q → s { nx := fun _ H' => Q .non H', rt := Q } σ H := fun F0 H0 F H σ Q S q => h F0 H0 F H σ _ S fun F1 H1 σ1 e1 S1 => q .non F1 H1 S1.g rfl

/-! ### walks -/
def Wl (K : PySem.W.Frag) (F1 : Hp) (J : It) (ds : List Dt) : Prop := Walk J ds.length (fun H => Ex F1 H) (fun i H x H' => ∀ F2, Ex F1 F2 → Ex F2 H → ∃ F3 d, Wk F2 H F3 H' ∧ ds[i]? = some d ∧ Rp K F3 d x)
def Ie (K : PySem.W.Frag) (wi : TI) (env : En) (ds : List Dt) : Prop := ∀ F0 H0 F H σ, Sm K F0 H0 F H σ env → ∀ R : It → Hp → Prop, (∀ J F' H', Wk F H F' H' → Wl K F' J ds → R J H') → wi σ H R
theorem wl_at {F : Hp} {ds : List Dt} {vs : List V} {J : It} {G : Hp → Prop} (r : RpL K F ds vs) (w : Walk J vs.length G (YAt vs)) (hg : ∀ H, Ex F H → G H) : Wl K F J ds := by
  unfold Wl
  rw [r.length]
  refine w.mono hg fun i H x H' hi e y F2 e2 e3 => ?_
  obtain ⟨rfl, hx⟩ := y
  obtain ⟨d, h1, h2⟩ := r.getV hx
  exact ⟨F2, d, Wk.refl e3, h1, h2.mono e2⟩
theorem ie_list {tl : TE} {ds : List Dt} (h : Ee K tl env (.lst ds)) : Ie K (iList K tl) env ds := fun F0 H0 F H σ S R k =>
  h F0 H0 F H σ S _ fun v F1 H1 w r => by
    obtain ⟨a, vs, rfl, h1, h2⟩ := r
    exact ⟨a, rfl, ⟨vs, ex_l w.s h1⟩, k _ F1 H1 w (wl_at h2 walk_list fun H e => ex_l e h1)⟩
theorem ie_tup {tl : TE} {ds : List Dt} (h : Ee K tl env (.tup ds)) : Ie K (iTup K tl) env ds := fun F0 H0 F H σ S R k =>
  h F0 H0 F H σ S _ fun v F1 H1 w r => by
    obtain ⟨a, vs, rfl, h1, h2⟩ := r
    exact ⟨a, rfl, ⟨vs, ex_t w.s h1⟩, k _ F1 H1 w (wl_at h2 walk_tup fun H e => ex_t e h1)⟩
def rangeD (lo : Int) (n : Nat) : List Dt := (List.range n).map fun (i : Nat) => Dt.int (lo + i)
theorem rangeD_len (lo : Int) (n : Nat) : (rangeD lo n).length = n := by simp [rangeD]
theorem wl_range {F : Hp} {lo : Int} {n : Nat} : Wl K F (Itr lo n) (rangeD lo n) := by
  unfold Wl
  rw [rangeD_len]
  refine walk_range.mono (fun _ _ => trivial) fun i H x H' hi e y F2 e2 e3 => ?_
  obtain ⟨rfl, rfl⟩ := y
  exact ⟨F2, .int (lo + i), Wk.refl e3, by simp [rangeD, hi], rfl⟩
theorem ie_rng1 {tA : TA} {n : Int} (h : EeA K tA env [.int n]) (hn : -100000 ≤ n ∧ n ≤ 100000) : Ie K (iRng1 tA) env (rangeD 0 n.toNat) := fun F0 H0 F H σ S R k =>
  h F0 H0 F H σ S _ fun vs F1 H1 w r => by
    obtain ⟨v, r', rfl, e1, e2⟩ := r
    cases e1; cases e2
    exact ⟨n, rfl, by omega, by omega, k _ F1 H1 w wl_range⟩
theorem ie_rng2 {tA : TA} {lo n : Int} (h : EeA K tA env [.int lo, .int n]) (hn : -100000 ≤ n ∧ n ≤ 100000 ∧ -100000 ≤ lo ∧ lo ≤ 100000) : Ie K (iRng2 tA) env (rangeD lo (n - lo).toNat) := fun F0 H0 F H σ S R k =>
  h F0 H0 F H σ S _ fun vs F1 H1 w r => by
    obtain ⟨v, r', rfl, e1, v2, r2, rfl, e2, e3⟩ := r
    cases e1; cases e2; cases e3
    exact ⟨lo, n, rfl, ⟨by omega, by omega, by omega, by omega⟩, k _ F1 H1 w wl_range⟩
def charsD (w : Str) : List Dt := w.cps.toList.map fun c => Dt.str ⟨#[c]⟩
theorem ie_str {tl : TE} {x : Str} (h : Ee K tl env (.str x)) : Ie K (iStr tl) env (charsD x) := fun F0 H0 F H σ S R k =>
  h F0 H0 F H σ S _ fun v F1 H1 w r => by
    cases r
    refine ⟨x, rfl, k _ F1 H1 w ?_⟩
    have hl : (charsD x).length = x.cps.size := by simp [charsD]
    unfold Wl
    rw [hl]
    refine walk_str.mono (fun _ _ => trivial) fun i H x' H' hi e y F2 e2 e3 => ?_
    obtain ⟨rfl, c, hc, rfl⟩ := y
    exact ⟨F2, .str ⟨#[c]⟩, Wk.refl e3, by simp [charsD, hc], rfl⟩
/-- over an own list that the loop leaves as it is: lent -/
theorem ie_own {i : Nat} {ds : List Dt} (hi : env[i]? = some (.ol ds)) : ∀ F0 H0 F H σ, Sm K F0 H0 F H σ env → True := fun _ _ _ _ _ _ => trivial

/-! ### loops -/
theorem se_for {wi : TI} {tb : TS} {ds : List Dt} (hI : Ie K wi env ds) (E : Nat → En) (m : Nat) (hm : m ≤ ds.length) (h0 : Le env (E 0))
    (hs : ∀ i d, i < m → ds[i]? = some d → ∃ e1, Ge K g d (E i) e1 ∧ Se K tb e1 (.nc (E (i + 1))))
    (hd : (m = ds.length ∧ o = .nx (E m)) ∨ ∃ d e1, ds[m]? = some d ∧ Ge K g d (E m) e1 ∧ ((∃ z, o = .rt z ∧ Se K tb e1 (.rt z)) ∨ ∃ e, o = .nx e ∧ Se K tb e1 (.bk e))) : Se K (tFor wi g tb) env o := fun F0 H0 F H σ D S p =>
  hI F0 H0 F H σ S _ fun J F1 H1 w W => by
    refine for_it W (fun i σ H => i ≤ m ∧ ∃ F, Ex F1 F ∧ Sm K F0 H0 F H σ (E i)) ⟨Nat.zero_le m, F1, Ex.refl F1, (S.wk w).le h0⟩ (fun i σ H _ h => ?_) (fun i x σ H H' hi h y => ?_) (fun σ H h => ?_)
    · obtain ⟨_, F2, e2, S2⟩ := h
      exact e2.trans S2.sub
    · obtain ⟨him, F2, e2, S2⟩ := h
      obtain ⟨F3, d, w3, hd', r3⟩ := y F2 e2 S2.sub
      by_cases hlt : i < m
      · obtain ⟨e1, hg, hb⟩ := hs i d hlt hd'
        refine hg F0 H0 F3 H' σ x (S2.wk w3) r3 _ fun σ3 S3 => ?_
        refine hb F0 H0 F3 H' σ3 _ S3 fun F4 H4 σ4 e4 S4 => ⟨⟨hlt, F4, (e2.trans w3.f).trans e4, S4⟩, ⟨hlt, F4, (e2.trans w3.f).trans e4, S4⟩⟩
      · have him' : i = m := by omega
        subst him'
        rcases hd with ⟨e, _⟩ | ⟨d', e1, h1, hg, hb⟩
        · omega
        · rw [hd'] at h1
          cases h1
          refine hg F0 H0 F3 H' σ x (S2.wk w3) r3 _ fun σ3 S3 => ?_
          rcases hb with ⟨z, rfl, hz⟩ | ⟨e, rfl, hz⟩
          · exact hz F0 H0 F3 H' σ3 _ S3 p
          · exact hz F0 H0 F3 H' σ3 _ S3 fun F4 H4 σ4 e4 S4 => p F4 H4 σ4 (((w.f.trans e2).trans w3.f).trans e4) S4
    · obtain ⟨hn, F2, e2, S2⟩ := h
      have e : m = ds.length := by omega
      rcases hd with ⟨_, rfl⟩ | ⟨d', e1, h1, _⟩
      · rw [← e] at S2
        exact p F2 H σ (w.f.trans e2) S2
      · have := (List.getElem?_eq_some_iff.mp h1).1
        omega
/-- a fold -/
theorem se_fold {α S : Type} {wi : TI} {tb : TS} {ds : List Dt} (xs : List α) (dec : α → Dt) (hds : ds = xs.map dec) (hI : Ie K wi env ds) (enc : S → En) (step : S → α → S) (P : S → List α → Prop) (s0 : S) (h0 : Le env (enc s0)) (p0 : P s0 [])
    (hs : ∀ s pre a post, xs = pre ++ a :: post → P s pre → P (step s a) (pre ++ [a]) ∧ ∃ e1, Ge K g (dec a) (enc s) e1 ∧ Se K tb e1 (.nc (enc (step s a)))) : Se K (tFor wi g tb) env (.nx (enc (xs.foldl step s0))) := by
  subst hds
  have key : ∀ i, i ≤ xs.length → P ((xs.take i).foldl step s0) (xs.take i) := by
    intro i
    induction i with
    | zero => intro _; exact p0
    | succ i ih =>
      intro hi
      have hx : xs = xs.take i ++ xs[i] :: xs.drop (i + 1) := by simp
      have e : xs.take (i + 1) = xs.take i ++ [xs[i]] := by simp
      rw [e, List.foldl_append]
      exact (hs _ (xs.take i) xs[i] (xs.drop (i + 1)) hx (ih (by omega))).1
  refine se_for hI (fun i => enc ((xs.take i).foldl step s0)) xs.length (by simp) h0 (fun i d hi hd => ?_) (.inl ⟨by simp, by simp⟩)
  rw [List.getElem?_map, List.getElem?_eq_getElem hi] at hd
  cases hd
  have hx : xs = xs.take i ++ xs[i] :: xs.drop (i + 1) := by simp
  obtain ⟨_, e1, h1, h2⟩ := hs _ (xs.take i) xs[i] (xs.drop (i + 1)) hx (key i (by omega))
  refine ⟨e1, h1, ?_⟩
  have e : xs.take (i + 1) = xs.take i ++ [xs[i]] := by simp
  rw [e, List.foldl_append]
  exact h2
theorem se_while {tb : TS} (P : En → Prop) (μ : En → Nat) (hs : ∀ e, P e → ∃ b, Te K t e b ∧ (b = true → (∃ e', P e' ∧ μ e' < μ e ∧ Se K tb e (.nc e')) ∨ (∃ z, o = .rt z ∧ Se K tb e (.rt z)) ∨ ∃ e', o = .nx e' ∧ Se K tb e (.bk e')) ∧ (b = false → o = .nx e)) (h0 : P env) : Se K (tWhile t tb) env o := fun F0 H0 F H σ D S p => by
  refine ⟨fun m σ' H' => ∃ e F', P e ∧ μ e = m ∧ Ex F F' ∧ Sm K F0 H0 F' H' σ' e, ⟨_, env, F, h0, rfl, Ex.refl F, S⟩, ?_⟩
  rintro m σ' H' ⟨e, F', hP, rfl, ex, S'⟩
  obtain ⟨b, hb, h1, h2⟩ := hs e hP
  refine hb F0 H0 F' H' σ' S' _ fun F1 H1 w => ?_
  cases b with
  | true =>
    refine ⟨fun σ2 H2 => ∃ e2 F2, P e2 ∧ μ e2 < μ e ∧ Ex F F2 ∧ Sm K F0 H0 F2 H2 σ2 e2, fun σ2 H2 ⟨e2, F2, a, b, c, d⟩ => ⟨μ e2, b, e2, F2, a, rfl, c, d⟩, ?_⟩
    rcases h1 rfl with ⟨e', p1, p2, p3⟩ | ⟨z, rfl, p3⟩ | ⟨e', rfl, p3⟩
    · exact p3 F0 H0 F1 H1 σ' _ (S'.wk w) fun F4 H4 σ4 e4 S4 => ⟨⟨e', F4, p1, p2, (ex.trans w.f).trans e4, S4⟩, ⟨e', F4, p1, p2, (ex.trans w.f).trans e4, S4⟩⟩
    · exact p3 F0 H0 F1 H1 σ' _ (S'.wk w) p
    · exact p3 F0 H0 F1 H1 σ' _ (S'.wk w) fun F4 H4 σ4 e4 S4 => p F4 H4 σ4 ((ex.trans w.f).trans e4) S4
  | false =>
    have := h2 rfl
    subst this
    exact p F1 H1 σ' (ex.trans w.f) (S'.wk w)

/-! ### comprehensions -/
theorem en_lc {wi : TI} {tt : TT} {j : Nat} {ds : List Dt} (hI : Ie K wi env ds) (hn : ds.length ≤ 40000) (p : Dt → Bool) (v : Dt → Dt) (ht : ∀ d ∈ ds, Te K tt (env.set j (.d d)) (p d)) (he : ∀ d ∈ ds, p d = true → Ee K te (env.set j (.d d)) (v d)) :
    EnL K (tLc wi (gName j) tt te [j]) env ((ds.filter p).map v) := fun F0 H0 F H σ S Q q =>
  hI F0 H0 F H σ S _ fun J F1 H1 w W D hD => by
    have nF : F1 D = none := none_sub w.s hD
    have n0 : H0 D = none := none_sub (S.wk w).g.h hD
    have nO : ∀ (i : Nat) (es : List Dt), env[i]? = some (.ol es) → σ[i]? ≠ some (some (.ref D)) := fun i es e z => by
      obtain ⟨v, k1, p, us, rfl, _, _, k3, _⟩ := (S.wk w).sl i _ e
      rw [k1] at z
      cases z
      rw [hD] at k3
      cases k3
    refine lc_it W (fun i H2 => ∃ F2 acc, Ex F1 F2 ∧ F2 D = none ∧ H2 D = some (.lst acc) ∧ RpL K F2 (((ds.take i).filter p).map v) acc ∧ Sm K F0 H0 F2 H2 σ env ∧ Ex H1 H2 ∧ (∀ a o, H1 a = some o → F1 a = none → F2 a = none))
      ⟨F1, [], Ex.refl F1, nF, upd_same, rfl, (S.wk w).upd _ nF n0 nO, Ex.new hD, fun _ _ _ n => n⟩ (fun i H2 _ h => ?_) (fun i x H2 H2' hi h y => ?_) (fun H2 h => ?_)
    · obtain ⟨F2, acc, e2, _, _, _, S2, _⟩ := h
      exact e2.trans S2.sub
    · obtain ⟨F2, acc, e2, d2, h2, r2, S2, x2, n2⟩ := h
      obtain ⟨F3, d, w3, hd, r3⟩ := y F2 e2 S2.sub
      have hmem : d ∈ ds := List.mem_of_getElem? hd
      have hset : (env.set j .u).set j (.d d) = env.set j (.d d) := by rw [List.set_set]
      have S3 : Sm K F0 H0 F3 H2' ((σ.set j none).set j (some x)) (env.set j (.d d)) := by
        rw [← hset]
        exact ((S2.wk w3).setU j).setD r3
      have etake : ds.take (i + 1) = ds.take i ++ [d] := by
        rw [List.take_add_one, hd]
        rfl
      refine ⟨by simp [wipe, List.set_set], ?_⟩
      show tt ((σ.set j none).set j (some x)) H2' _
      refine ht d hmem F0 H0 F3 H2' _ S3 _ fun F4 H4 w4 => ?_
      have hD4 : H4 D = some (.lst acc) := w4.h D _ (w3.h D _ h2)
      cases hp : p d with
      | true =>
        show te ((σ.set j none).set j (some x)) H4 _
        refine he d hmem hp F0 H0 F4 H4 _ (S3.wk w4) _ fun vv F5 H5 w5 r5 => ?_
        have hD5 : H5 D = some (.lst acc) := w5.h D _ hD4
        have w35 : Wk F2 H2 F5 H5 := (w3.trans w4).trans w5
        have dF5 : F5 D = none := w35.n D _ h2 d2
        have hlen : acc.length < sizeLine := by
          rw [← r2.length, List.length_map]
          have h1 := List.length_filter_le p (ds.take i)
          have h2 : (ds.take i).length ≤ i := by simp; omega
          exact sz_lt (by omega)
        refine ⟨acc, hD5, hlen, F5, acc ++ [vv], e2.trans w35.f, dF5, upd_same, ?_, (S2.wk w35).upd _ dF5 n0 nO, fun a o h => ?_, fun a o h h' => w35.n a o (x2 a o h) (n2 a o h h')⟩
        · rw [etake, List.filter_append, List.map_append]
          refine RpL.append (r2.mono w35.f) ?_
          rw [List.filter_cons, if_pos hp]
          exact RpL.cons r5 RpL.nil
        · rw [upd_ne (ne_of_none h hD)]
          exact w35.h a o (x2 a o h)
      | false =>
        have w34 : Wk F2 H2 F4 H4 := w3.trans w4
        refine ⟨F4, acc, e2.trans w34.f, w34.n D _ h2 d2, hD4, ?_, S2.wk w34, x2.trans w34.h, fun a o h h' => w34.n a o (x2 a o h) (n2 a o h h')⟩
        rw [etake, List.filter_append, List.map_append, List.filter_cons, if_neg (by simp [hp])]
        show RpL K F4 (((ds.take i).filter p).map v ++ []) acc
        rw [List.append_nil]
        exact r2.mono w34.f
    · obtain ⟨F2, acc, e2, d2, h2, r2, S2, x2, n2⟩ := h
      rw [List.take_length] at r2
      exact q D acc F2 H2 (w.trans ⟨e2, x2, S2.sub, n2⟩) (fresh_back w.h hD) d2 h2 r2
theorem te_yes : Te K tYes env true := fun F0 H0 F H σ S Q q => q F H (Wk.refl S.sub)
theorem en_map {wi : TI} {j : Nat} {ds : List Dt} (hI : Ie K wi env ds) (hn : ds.length ≤ 40000) (v : Dt → Dt) (he : ∀ d ∈ ds, Ee K te (env.set j (.d d)) (v d)) : EnL K (tLc wi (gName j) tYes te [j]) env (ds.map v) := by
  have h := en_lc (K := K) (te := te) (j := j) hI hn (fun _ => true) v (fun d _ => te_yes) fun d hd _ => he d hd
  have e : ds.filter (fun _ => true) = ds := by simp
  rw [e] at h
  exact h
end
end Pw

set_option maxHeartbeats 2000000
namespace Pw
open PySem PySem.Spec PyProof.Rows L2 Evl

/-! ### defs of the text, called by name -/
/-- the def x of the text stands behind the top as st tells it -/
def Df (K : PySem.W.Frag) (mg : Str → Option Value) (x : Str) (ps : List Str) (st : Stmt) : Prop :=
  ∃ f fd, mg x = some (.ref f) ∧ FunD K x x (defArgs st) (defBody st) (defScope st) [] [] f fd ∧ Binds K fd ps []
/-- x is called by name and keeps sp -/
def Fn (P : Program) (w : World) (K : PySem.W.Frag) (mg : Str → Option Value) (base : Heap) (k : Nat) (x : Str) (ps : List Str) (sp : Sp) : Prop :=
  ∃ f fd, mg x = some (.ref f) ∧ PySem.W.keepIn K (.ref f) = true ∧ Binds K fd ps [] ∧ FnOk P w K mg base CX0 k f fd ps sp
section
variable {P : Program} {w : World} {K : PySem.W.Frag} {mg : Str → Option Value} {base : Heap}
theorem Fn.mono {j k : Nat} {x : Str} {ps : List Str} {sp : Sp} (F : Fn P w K mg base j x ps sp) (h : j ≤ k) : Fn P w K mg base k x ps sp := by
  obtain ⟨f, fd, h1, h2, h3, h4⟩ := F
  exact ⟨f, fd, h1, h2, h3, h4.mono h⟩
theorem Fn.imp {k : Nat} {x : Str} {ps : List Str} {sp sp' : Sp} (F : Fn P w K mg base k x ps sp) (h : ∀ vs H Q E, sp' vs H Q E → sp vs H Q E) : Fn P w K mg base k x ps sp' := by
  obtain ⟨f, fd, h1, h2, h3, h4⟩ := F
  exact ⟨f, fd, h1, h2, h3, h4.imp h⟩
/-- THE RULE for a def that is a function of data -/
theorem Fn.of {x : Str} {ps N : List Str} {st : Stmt} {k : Nat} {m : List Dt → Option Dt} (D : Df K mg x ps st) (S : FnScope N ps (defScope st)) (hl : ∀ ds d, m ds = some d → ds.length = ps.length)
    (hb : ∀ (f : Addr) (cdv : Value) (A : Around) (outer : List Env) (s : Shared) (H : Hp) (E : XK), Room k (A.deeper (envOfC x (defScope st) s.heap.objs.size f cdv)) →
      ∃ t, PSs (cxOf CX0 P w K mg base N x (defScope st) f cdv A outer s H E).nox (defBody st) t ∧ ∀ ds d, m ds = some d → Se K t (ds.map Sl.d ++ List.replicate (N.length - ds.length) Sl.u) (.rt d)) :
    Fn P w K mg base (k + 1) x ps (spF K m) := by
  obtain ⟨f, fd, h1, F, h3⟩ := D
  refine ⟨f, fd, h1, F.kp, h3, F.ok S (fun vs H Q E h => spF_len hl vs H Q E h) fun cdv A outer s H vs Q E hr h => ?_⟩
  obtain ⟨t, ht, hs⟩ := hb f cdv A outer s H E hr
  exact ⟨t, PSs.nox ht, run_rt h hs⟩
/-- .. for any promise -/
theorem Fn.ofSp {x : Str} {ps N : List Str} {st : Stmt} {k : Nat} {sp : Sp} (D : Df K mg x ps st) (S : FnScope N ps (defScope st)) (hl : ∀ vs H Q E, sp vs H Q E → vs.length = ps.length)
    (hb : ∀ (f : Addr) (cdv : Value) (A : Around) (outer : List Env) (s : Shared) (H : Hp) (E : XK), Room k (A.deeper (envOfC x (defScope st) s.heap.objs.size f cdv)) →
      ∃ t, PSs (cxOf CX0 P w K mg base N x (defScope st) f cdv A outer s H E).nox (defBody st) t ∧ ∀ vs Q, sp vs H Q E → t { nx := fun _ H' => Q .non H', rt := Q } (L2.start N vs) H) :
    Fn P w K mg base (k + 1) x ps sp := by
  obtain ⟨f, fd, h1, F, h3⟩ := D
  refine ⟨f, fd, h1, F.kp, h3, F.ok S hl fun cdv A outer s H vs Q E hr h => ?_⟩
  obtain ⟨t, ht, hs⟩ := hb f cdv A outer s H E hr
  exact ⟨t, PSs.nox ht, hs vs Q h⟩
end
section
variable {X : Cx}
theorem pe_fn {x : Str} {ps : List Str} {sp : Sp} {k : Nat} {e : Expr} {es : List Expr} {t : TA} {p pos : Pos} (F : Fn X.prog X.w X.K X.mg X.base k x ps sp) (hr : Room k X.A) (ha : PA X (e :: es) t) (hg : Gl X x := by rfl)
    (hdb : (x == ("__debug__" : Str)) = false := by decide) (he : starEach (e :: es) X.env = (false, eval e X.env) :: starEach es X.env := by rfl) (hpl : (backTo pos (starEach es X.env)).any (·.1) = false := by rfl) :
    PE X (.Call (.Name x p) (e :: es) [] pos) (tCall sp [] E0 t) := by
  obtain ⟨f, fd, h1, h2, h3, h4⟩ := F
  exact pe_call h4 hr hg h1 h2 h3 .nil pass0 ha hdb he hpl
theorem pe_fn0 {x : Str} {ps : List Str} {sp : Sp} {k : Nat} {p pos : Pos} (F : Fn X.prog X.w X.K X.mg X.base k x ps sp) (hr : Room k X.A) (hg : Gl X x := by rfl)
    (hdb : (x == ("__debug__" : Str)) = false := by decide) : PE X (.Call (.Name x p) [] [] pos) (tCall sp [] E0 tNil) := by
  obtain ⟨f, fd, h1, h2, h3, h4⟩ := F
  exact pe_call0 h4 hr hg h1 h2 h3 .nil pass0 hdb
/-- a builtin, a built-in type, called; given that the module does not name it -/
theorem pset {i : Nat} {x : Str} {e : Expr} {te : TE} {pos pos' : Pos} (hN : X.N.Nodup) (he : PE X e te) (hi : X.N[i]? = some x := by rfl) (hx : Loc X.env.scope x := by first | exact Or.inl rfl | exact Or.inr rfl) (hs : swapsWith e (some (.Name x pos')) pos.line X.env = pure false := by rfl)
    (hf : X.fn x = true ∨ X.env.scope.names.lookup x = some .local := by first | exact .inl rfl | exact .inr rfl | assumption) : PS X (.Assign [.Name x pos'] e pos) (tAsg te (gName i)) := ps_set hN hi hx he hs hf
theorem pgn {i : Nat} {x : Str} {pos : Pos} (hN : X.N.Nodup) (hi : X.N[i]? = some x := by rfl) (hx : Loc X.env.scope x := by first | exact Or.inl rfl | exact Or.inr rfl)
    (hf : X.fn x = true ∨ X.env.scope.names.lookup x = some .local := by first | exact .inl rfl | exact .inr rfl | assumption) : PG X (.Name x pos) (gName i) := pg_name hN hi hx hf
/-- isinstance(x, T) for a built-in T -/
theorem pe_tyname {x : Str} {n : String} {pos : Pos} (hm : X.mg x = none) (hg : Gl X x := by rfl) (hv : bootBuiltins x = some (.type n) := by decide +kernel) (hn : x ≠ "__name__" := by decide) (hdb : (x == ("__debug__" : Str)) = false := by decide) : PE X (.Name x pos) (tC (.ty n)) := pe_bltn hg hm hv rfl hn hdb
end
/-! ### what built-ins give -/
section
variable {K : PySem.W.Frag} {d e z : Dt} {ds : List Dt}
/-- the type's name of data -/
def tyD : Dt → Option String
  | .non => some "NoneType"
  | .bl _ => some "bool"
  | .int _ => some "int"
  | .str _ => some "str"
  | .tup _ => some "tuple"
  | .lst _ => some "list"
  | .dic _ _ => some "dict"
  | .dit _ _ => some "dict"
  | _ => none
theorem tyX_l {H : Hp} {a : Addr} {xs : List V} (h : SqL K H a xs) : TyX K H (.ref a) (.type "list") := by
  rcases h with (h | ⟨o, h⟩) | ⟨o, its, n, h1, h2, _⟩
  · exact .base (.lst h)
  · exact .base (.frz h)
  · exact .kList h1 h2
theorem tyX_t {H : Hp} {a : Addr} {xs : List V} (h : SqT K H a xs) : TyX K H (.ref a) (.type "tuple") := by
  rcases h with (h | ⟨o, h⟩) | ⟨o, its, n, h1, h2, _⟩
  · exact .base (.tup h)
  · exact .fTuple h
  · exact .kTuple h1 h2
theorem tyX_of {F H : Hp} {v : V} {n : String} (s : Ex F H) (r : Rp K F d v) (h : tyD d = some n) : TyX K H v (.type n) := by
  cases d <;> simp only [tyD, Option.some.injEq, reduceCtorEq] at h <;> subst h
  · cases r; exact .base .non
  · cases r; exact .base (.bl _)
  · cases r; exact .base (.int _)
  · cases r; exact .base (.str _)
  · obtain ⟨a, vs, rfl, h1, _⟩ := r
    exact tyX_t (ex_t s h1)
  · obtain ⟨a, vs, rfl, h1, _⟩ := r
    exact tyX_l (ex_l s h1)
  · obtain ⟨a, vs, rfl, h1, _⟩ := r
    exact .base (.dK (s _ _ h1))
  · obtain ⟨a, vs, rfl, h1, _⟩ := r
    exact .base (.dT (s _ _ h1))
theorem rl_isi {n t : String} {b : Bool} (h : tyD d = some n) (hb : kitB n t = some b) : RLd K (rIsi K) [d, .ty t] (.bl b) := fun F H vs s r Q q => by
  obtain ⟨v, r1, rfl, e1, v2, r2, rfl, e2, e3⟩ := r
  cases e2; cases e3
  exact ⟨v, .ty t, .type n, .type t, b, rfl, .ty t, tyX_of s e1 h, kit_ty hb, q _ F H (Wk.refl s) rfl⟩
theorem rl_lenS {w : Str} (h : w.length ≤ 100000) : RLd K (fun xs H Q => ∃ z, xs = [.str z] ∧ z.length ≤ sizeLine ∧ Q (.int z.length) H) [.str w] (.int w.length) := fun F H vs s r Q q => by
  obtain ⟨v, r1, rfl, e1, e2⟩ := r
  cases e1; cases e2
  exact ⟨w, rfl, sz_of h, q _ F H (Wk.refl s) rfl⟩
theorem rl_len : RLd K (rLenS K) [.lst ds] (.int ds.length) := fun F H vs s r Q q => by
  obtain ⟨v, r1, rfl, ⟨a, us, rfl, h1, h2⟩, e2⟩ := r
  cases e2
  refine ⟨a, us, rfl, .inl (ex_l s h1), ?_⟩
  rw [← h2.length]
  exact q _ F H (Wk.refl s) rfl
theorem rl_lenT : RLd K (rLenS K) [.tup ds] (.int ds.length) := fun F H vs s r Q q => by
  obtain ⟨v, r1, rfl, ⟨a, us, rfl, h1, h2⟩, e2⟩ := r
  cases e2
  refine ⟨a, us, rfl, .inr (ex_t s h1), ?_⟩
  rw [← h2.length]
  exact q _ F H (Wk.refl s) rfl
theorem rn_list : RLn K (rListS K) [.lst ds] ds := fun F H vs s r Q q => by
  obtain ⟨v, r1, rfl, ⟨a, us, rfl, h1, h2⟩, e2⟩ := r
  cases e2
  exact ⟨a, us, rfl, .inl (ex_l s h1), fun l hl => q l us F _ (Wk.own s _ hl) hl (none_sub s hl) upd_same h2⟩
theorem rn_listT : RLn K (rListS K) [.tup ds] ds := fun F H vs s r Q q => by
  obtain ⟨v, r1, rfl, ⟨a, us, rfl, h1, h2⟩, e2⟩ := r
  cases e2
  exact ⟨a, us, rfl, .inr (ex_t s h1), fun l hl => q l us F _ (Wk.own s _ hl) hl (none_sub s hl) upd_same h2⟩
def rTupS (K : PySem.W.Frag) : List V → Hp → VK → Prop := fun xs H Q => ∃ p ys, xs = [.ref p] ∧ ((SqL K H p ys ∧ ∀ l, H l = none → Q (.ref l) (upd H l (.tup ys))) ∨ (SqT K H p ys ∧ Q (.ref p) H))
theorem rl_tup : RLd K (rTupS K) [.lst ds] (.tup ds) := fun F H vs s r Q q => by
  obtain ⟨v, r1, rfl, ⟨a, us, rfl, h1, h2⟩, e2⟩ := r
  cases e2
  exact ⟨a, us, rfl, .inl ⟨ex_l s h1, fun l hl => q _ (upd F l (.tup us)) _ (Wk.new s _ hl) ⟨l, us, rfl, SqT.of upd_same, h2.mono (Ex.new (none_sub s hl))⟩⟩⟩
theorem rl_tupT : RLd K (rTupS K) [.tup ds] (.tup ds) := fun F H vs s r Q q => by
  obtain ⟨v, r1, rfl, ⟨a, us, rfl, h1, h2⟩, e2⟩ := r
  cases e2
  exact ⟨a, us, rfl, .inr ⟨ex_t s h1, q _ F H (Wk.refl s) ⟨a, us, rfl, h1, h2⟩⟩⟩
def rInt1 : List V → Hp → VK → Prop := fun xs H Q => (∃ i, xs = [.int i] ∧ Q (.int i) H) ∨ ∃ k, xs = [.bl k] ∧ Q (.int (if k then 1 else 0)) H
theorem rl_int {i : Int} : RLd K rInt1 [.int i] (.int i) := fun F H vs s r Q q => by
  obtain ⟨v, r1, rfl, e1, e2⟩ := r
  cases e1; cases e2
  exact .inl ⟨i, rfl, q _ F H (Wk.refl s) rfl⟩
def rMin2 : List V → Hp → VK → Prop := fun xs H Q => ∃ i j, xs = [.int i, .int j] ∧ Q (.int (if j < i then j else i)) H
theorem rl_max2 {i j : Int} : RLd K rMax2 [.int i, .int j] (.int (if j > i then j else i)) := fun F H vs s r Q q => by
  obtain ⟨v, r1, rfl, e1, v2, r2, rfl, e2, e3⟩ := r
  cases e1; cases e2; cases e3
  exact ⟨i, j, rfl, q _ F H (Wk.refl s) rfl⟩
theorem rl_min2 {i j : Int} : RLd K rMin2 [.int i, .int j] (.int (if j < i then j else i)) := fun F H vs s r Q q => by
  obtain ⟨v, r1, rfl, e1, v2, r2, rfl, e2, e3⟩ := r
  cases e1; cases e2; cases e3
  exact ⟨i, j, rfl, q _ F H (Wk.refl s) rfl⟩
theorem rl_all {bs : List Bool} : RLd K (rAll K) [.lst (bs.map .bl)] (.bl (bs.all id)) := fun F H vs s r Q q => by
  obtain ⟨v, r1, rfl, ⟨a, us, rfl, h1, h2⟩, e2⟩ := r
  cases e2
  cases h2.bls
  exact ⟨a, bs, rfl, ex_l s h1, q _ F H (Wk.refl s) rfl⟩
theorem rl_any {bs : List Bool} : RLd K (rAny K) [.lst (bs.map .bl)] (.bl (bs.any id)) := fun F H vs s r Q q => by
  obtain ⟨v, r1, rfl, ⟨a, us, rfl, h1, h2⟩, e2⟩ := r
  cases e2
  cases h2.bls
  exact ⟨a, bs, rfl, ex_l s h1, q _ F H (Wk.refl s) rfl⟩
end
section
variable {X : Cx}
theorem cr_int : CallR X (.type "int") rInt1 := call_int1
theorem cr_min2 (hc : X.calm = true) : CallR X (.builtin "min") rMin2 := call_min2 hc
theorem cr_max2 (hc : X.calm = true) : CallR X (.builtin "max") rMax2 := call_max2 hc
theorem cr_list : CallR X (.type "list") (rListS X.K) := call_list_of
theorem cr_tuple : CallR X (.type "tuple") (rTupS X.K) := call_tuple_of
theorem cr_len : CallR X (.builtin "len") (rLenS X.K) := call_len_seq
end
end Pw
namespace Pw
open PySem PySem.Spec PyProof.Rows L2 Evl
section
variable {X : Cx}
theorem pe_globI {x : Str} {i : Int} {pos : Pos} (h : ∃ t, X.mg x = some (.int i t)) (hg : Gl X x := by rfl) (hd : (x == ("__debug__" : Str)) = false := by decide) : PE X (.Name x pos) (tC (.int i)) := by
  obtain ⟨t, h⟩ := h
  exact pe_glob hg h ⟨t, rfl⟩ hd
theorem pe_globS {x : Str} {i : Str} {pos : Pos} (h : ∃ t, X.mg x = some (.str i t)) (hg : Gl X x := by rfl) (hd : (x == ("__debug__" : Str)) = false := by decide) : PE X (.Name x pos) (tC (.str i)) := by
  obtain ⟨t, h⟩ := h
  exact pe_glob hg h ⟨t, rfl⟩ hd
end
section
variable {K : PySem.W.Frag} {env : En} {te : TE} {tl th : TO} {d : Dt} {ds : List Dt}
theorem oo_none : Oo K tNoPart env none := fun F0 H0 F H σ S Q q => q F H (Wk.refl S.sub)
theorem oo_some {i : Int} (h : Ee K te env (.int i)) : Oo K (tPart te) env (some i) := fun F0 H0 F H σ S Q q => h F0 H0 F H σ S _ fun v F1 H1 w r => ⟨i, r, q F1 H1 w⟩
theorem ee_slS {x : Str} {lo hi : Option Int} (h : Ee K te env (.str x)) (h1 : Oo K tl env lo) (h2 : Oo K th env hi) (hl : x.length ≤ 100000) : Ee K (tSl rSlS te tl th) env (.str (cutS x lo hi)) := fun F0 H0 F H σ S Q q =>
  h F0 H0 F H σ S _ fun v F1 H1 w r => h1 F0 H0 F1 H1 σ (S.wk w) _ fun F2 H2 w2 => h2 F0 H0 F2 H2 σ ((S.wk w).wk w2) _ fun F3 H3 w3 => ⟨x, r, sz_of hl, q _ F3 H3 ((w.trans w2).trans w3) rfl⟩
theorem en_slL {xs : List Dt} {lo hi : Option Int} (h : Ee K te env (.lst xs)) (h1 : Oo K tl env lo) (h2 : Oo K th env hi) : EnL K (tSl (rSlL K) te tl th) env ((xs.drop (HT.sIx xs.length 0 lo)).take (HT.sIx xs.length xs.length hi - HT.sIx xs.length 0 lo)) := fun F0 H0 F H σ S Q q =>
  h F0 H0 F H σ S _ fun v F1 H1 w r => h1 F0 H0 F1 H1 σ (S.wk w) _ fun F2 H2 w2 => h2 F0 H0 F2 H2 σ ((S.wk w).wk w2) _ fun F3 H3 w3 => by
    obtain ⟨a, vs, rfl, g1, g2⟩ := r
    refine ⟨a, vs, rfl, ex_l (w.s.trans (w2.h.trans w3.h)) g1, fun p hp => q p _ F3 _ (((w.trans w2).trans w3).trans (Wk.own w3.s _ hp)) (fresh_back ((w.trans w2).trans w3).h hp) (none_sub w3.s hp) upd_same ?_⟩
    unfold cutV
    rw [← g2.length]
    exact RpL.take _ (RpL.drop _ (g2.mono (w2.f.trans w3.f)))
end
end Pw
namespace Pw
open PySem PySem.Spec PyProof.Rows L2 Evl
def isI : Dt → Bool
  | .int _ => true
  | _ => false
def isB : Dt → Bool
  | .bl _ => true
  | _ => false
def isS : Dt → Bool
  | .str _ => true
  | _ => false
def isTp : Dt → Bool
  | .tup _ => true
  | _ => false
def isL : Dt → Bool
  | .lst _ => true
  | _ => false
section
variable {K : PySem.W.Frag} {d : Dt}
theorem rl_isInt (h : (tyD d).isSome = true) : RLd K (rIsi K) [d, .ty "int"] (.bl (isI d || isB d)) := by
  cases d
  · exact rl_isi rfl (show kitB "NoneType" "int" = some false by decide +kernel)
  · exact rl_isi rfl (show kitB "bool" "int" = some true by decide +kernel)
  · exact rl_isi rfl (show kitB "int" "int" = some true by decide +kernel)
  · exact rl_isi rfl (show kitB "str" "int" = some false by decide +kernel)
  · exact rl_isi rfl (show kitB "tuple" "int" = some false by decide +kernel)
  · exact rl_isi rfl (show kitB "list" "int" = some false by decide +kernel)
  · exact rl_isi rfl (show kitB "dict" "int" = some false by decide +kernel)
  · exact rl_isi rfl (show kitB "dict" "int" = some false by decide +kernel)
  all_goals cases h
theorem rl_isBool (h : (tyD d).isSome = true) : RLd K (rIsi K) [d, .ty "bool"] (.bl (isB d)) := by
  cases d
  · exact rl_isi rfl (show kitB "NoneType" "bool" = some false by decide +kernel)
  · exact rl_isi rfl (show kitB "bool" "bool" = some true by decide +kernel)
  · exact rl_isi rfl (show kitB "int" "bool" = some false by decide +kernel)
  · exact rl_isi rfl (show kitB "str" "bool" = some false by decide +kernel)
  · exact rl_isi rfl (show kitB "tuple" "bool" = some false by decide +kernel)
  · exact rl_isi rfl (show kitB "list" "bool" = some false by decide +kernel)
  · exact rl_isi rfl (show kitB "dict" "bool" = some false by decide +kernel)
  · exact rl_isi rfl (show kitB "dict" "bool" = some false by decide +kernel)
  all_goals cases h
theorem rl_isStr (h : (tyD d).isSome = true) : RLd K (rIsi K) [d, .ty "str"] (.bl (isS d)) := by
  cases d
  · exact rl_isi rfl (show kitB "NoneType" "str" = some false by decide +kernel)
  · exact rl_isi rfl (show kitB "bool" "str" = some false by decide +kernel)
  · exact rl_isi rfl (show kitB "int" "str" = some false by decide +kernel)
  · exact rl_isi rfl (show kitB "str" "str" = some true by decide +kernel)
  · exact rl_isi rfl (show kitB "tuple" "str" = some false by decide +kernel)
  · exact rl_isi rfl (show kitB "list" "str" = some false by decide +kernel)
  · exact rl_isi rfl (show kitB "dict" "str" = some false by decide +kernel)
  · exact rl_isi rfl (show kitB "dict" "str" = some false by decide +kernel)
  all_goals cases h
theorem rl_isTup (h : (tyD d).isSome = true) : RLd K (rIsi K) [d, .ty "tuple"] (.bl (isTp d)) := by
  cases d
  · exact rl_isi rfl (show kitB "NoneType" "tuple" = some false by decide +kernel)
  · exact rl_isi rfl (show kitB "bool" "tuple" = some false by decide +kernel)
  · exact rl_isi rfl (show kitB "int" "tuple" = some false by decide +kernel)
  · exact rl_isi rfl (show kitB "str" "tuple" = some false by decide +kernel)
  · exact rl_isi rfl (show kitB "tuple" "tuple" = some true by decide +kernel)
  · exact rl_isi rfl (show kitB "list" "tuple" = some false by decide +kernel)
  · exact rl_isi rfl (show kitB "dict" "tuple" = some false by decide +kernel)
  · exact rl_isi rfl (show kitB "dict" "tuple" = some false by decide +kernel)
  all_goals cases h
theorem rl_isList (h : (tyD d).isSome = true) : RLd K (rIsi K) [d, .ty "list"] (.bl (isL d)) := by
  cases d
  · exact rl_isi rfl (show kitB "NoneType" "list" = some false by decide +kernel)
  · exact rl_isi rfl (show kitB "bool" "list" = some false by decide +kernel)
  · exact rl_isi rfl (show kitB "int" "list" = some false by decide +kernel)
  · exact rl_isi rfl (show kitB "str" "list" = some false by decide +kernel)
  · exact rl_isi rfl (show kitB "tuple" "list" = some false by decide +kernel)
  · exact rl_isi rfl (show kitB "list" "list" = some true by decide +kernel)
  · exact rl_isi rfl (show kitB "dict" "list" = some false by decide +kernel)
  · exact rl_isi rfl (show kitB "dict" "list" = some false by decide +kernel)
  all_goals cases h
end
end Pw
namespace Pw
open PySem PySem.Spec PyProof.Rows L2 Evl
section
variable {K : PySem.W.Frag} {env E : En} {g : TG} {tb : TS} {wi : TI} {ds : List Dt}
theorem find_split {α : Type} {p : α → Bool} : ∀ {l : List α} {d : α}, l.find? p = some d → ∃ i : Nat, l[i]? = some d ∧ p d = true ∧ ∀ (j : Nat) x, j < i → l[j]? = some x → p x = false
  | a :: l, d, h => by
    rw [List.find?_cons] at h
    cases q : p a with
    | true =>
      rw [q] at h
      cases h
      exact ⟨0, rfl, q, fun j x hj _ => by omega⟩
    | false =>
      rw [q] at h
      obtain ⟨i, h1, h2, h3⟩ := find_split h
      refine ⟨i + 1, by simpa using h1, h2, fun j x hj hx => ?_⟩
      cases j with
      | zero =>
        simp at hx
        rw [← hx]
        exact q
      | succ j => exact h3 j x (by omega) (by simpa using hx)
/-- a loop that searches: at the first d with p d it returns z d -/
theorem se_find (p : Dt → Bool) (z : Dt → Dt) (hI : Ie K wi env ds) (E : En) (h0 : Le env E) (hs : ∀ d ∈ ds, ∃ e1, Ge K g d E e1 ∧ (p d = true → Se K tb e1 (.rt (z d))) ∧ (p d = false → Se K tb e1 (.nc E))) :
    Se K (tFor wi g tb) env (match ds.find? p with | some d => .rt (z d) | none => .nx E) := by
  cases h : ds.find? p with
  | none =>
    have hn : ∀ d ∈ ds, p d = false := fun d hd => by
      have := List.find?_eq_none.mp h d hd
      simpa using this
    refine se_for hI (fun _ => E) ds.length (Nat.le_refl _) h0 (fun i d hi hd => ?_) (.inl ⟨rfl, rfl⟩)
    have hm := List.mem_of_getElem? hd
    obtain ⟨e1, h1, _, h3⟩ := hs d hm
    exact ⟨e1, h1, h3 (hn d hm)⟩
  | some d =>
    obtain ⟨i, h1, h2, h3⟩ := find_split h
    have hi : i < ds.length := (List.getElem?_eq_some_iff.mp h1).1
    refine se_for hI (fun _ => E) i (Nat.le_of_lt hi) h0 (fun j x hj hx => ?_) (.inr ?_)
    · obtain ⟨e1, g1, _, g3⟩ := hs x (List.mem_of_getElem? hx)
      exact ⟨e1, g1, g3 (h3 j x hj hx)⟩
    · obtain ⟨e1, g1, g2, _⟩ := hs d (List.mem_of_getElem? h1)
      exact ⟨d, e1, h1, g1, .inl ⟨z d, rfl, g2 h2⟩⟩
theorem itemD {α : Type} {l : List α} {i : Nat} (d : α) (h : i < l.length) : l[i]? = some (l.getD i d) := by
  rw [List.getD_eq_getElem?_getD, List.getElem?_eq_getElem h]
  rfl
/-- an item of a list at a remainder -/
theorem r2_ixM {i : Int} {n : Int} (h0 : 0 < n) (hn : n ≤ (ds.length : Int)) : R2d K (rIxL K) (.lst ds) (.int (i % n)) (ds.getD (i % n).toNat .non) := by
  have h1 := Int.emod_nonneg i (show n ≠ 0 by omega)
  have h2 := Int.emod_lt_of_pos i h0
  exact r2_ixL (ixN_at h1 (by omega)) (itemD _ (by omega))
end
end Pw

set_option maxHeartbeats 1000000
namespace Pw
open PySem PySem.Spec PyProof.Rows L2 Evl
/-! ### exceptions of own classes, held as values -/
/-- what the written part says of such a class -/
structure ExV (K : PySem.W.Frag) (C : Addr) : Prop where
  cl : (PySem.W.clsIn K C).isSome = true
  ga : PySem.W.findIn K (.ref C) "__getattribute__" = some (some (.builtin "BaseException.__getattribute__"))
  gt : PySem.W.findIn K (.ref C) "__getattr__" = some none
  sb : PySem.W.subIn K (.ref C) (.type "BaseException") = some true
  ca : PySem.W.findIn K (.ref C) "__class__" = some (some (.builtin "object.__class__"))
  cg : PySem.W.specialIn K (.builtin "object.__class__") "__get__" = some (some (.builtin "getset_descriptor.__get__"))
  ct : PySem.W.takesIn K (.builtin "object.__class__") = some true
  ob : PySem.W.mroIn K C (.type "object") = some true
  hd : PySem.W.hasDictIn K C = true
/-- at a stands an exception of C, its dict as d says -/
def XAt (H : Hp) (a C : Addr) (d : Option Addr) : Prop := H a = some (exo a C d) ∧ (d = none ∨ ∃ dx fs, d = some dx ∧ H dx = some (exd dx fs))
section
variable {X : Cx} {pins : List (Addr × Obj)} {σ : L2.St} {H : Hp} {s : Shared}
theorem xat_inst {a C : Addr} {d : Option Addr} (I : Inv X pins σ H s) (h : XAt H a C d) : ∃ ox od, PySem.W.InstAt s.heap a ox C od := by
  obtain ⟨h1, h2⟩ := h
  obtain ⟨t1, ho⟩ := exo_at I.hok h1
  rcases h2 with rfl | ⟨dx, fs, rfl, h2⟩
  · exact ⟨_, none, ho, rfl, rfl, trivial⟩
  · obtain ⟨mA, hns, _⟩ := exd_at I.hok h2
    obtain ⟨od, hod, _⟩ := lookIn_ns hns
    exact ⟨_, some od, ho, rfl, rfl, hod⟩
/-- isinstance(e, c), e an exception held as a value -/
def rIsx (K : PySem.W.Frag) : List V → Hp → VK → Prop := fun xs H Q => ∃ (a C : Addr) (d : Option Addr) (c : V) (u : Value) (b : Bool), xs = [.ref a, c] ∧ XAt H a C d ∧ ClsV c u ∧ ExV K C ∧ PySem.W.kitOne K (.ref C) u = some b ∧ Q (.bl b) H
theorem cr_isx : CallR X (.builtin "isinstance") (rIsx X.K) := fun pins s σ H xs us Q I r h => by
  obtain ⟨a, C, d, c, u, b, rfl, hx, k, E, e, q⟩ := h
  obtain ⟨u1, u2, rfl, r1, r2⟩ := vals2 r
  have e2 := k.eq r2
  subst e2
  cases (show u1 = Value.ref a from r1)
  obtain ⟨ox, od, J⟩ := xat_inst I hx
  exact PySem.W.kia_one (PySem.W.kitx_exc E.cl E.ga E.gt E.sb E.ca E.cg E.ct E.ob) I.kIn J e (fun z => nomatch z) fun tk => ⟨.bl b, H, I.tok tk, rfl, q⟩
/-- e.n -/
def tXat (K : PySem.W.Frag) (n : Str) (te : TE) : TE := fun σ H Q => te σ H fun x H1 => ∃ (a C dx : Addr) (fs : List (Str × V)) (v : V), x = .ref a ∧ H1 a = some (exo a C (some dx)) ∧ H1 dx = some (exd dx fs) ∧ ExV K C ∧ PySem.W.findIn K (.ref C) n = some none ∧ fs.lookup n = some v ∧ Q v H1
theorem pe_xat {e : Expr} {te : TE} {n : Str} {pos : Pos} (he : PE X e te) (hb : attributeBase e n X.env (eval e X.env) = eval e X.env := by rfl) : PE X (.Attribute e n pos) (tXat X.K n te) := ⟨fun pins s σ H Q I h => by
  refine attr_of hb (thn (he.run pins s σ H _ I h) fun u s1 hh => ?_)
  obtain ⟨x, H1, I1, rx, a, C, dx, fs, v, ex, ea, ed, E, hno, l, q⟩ := hh
  subst ex
  cases (show u = Value.ref a from rx)
  obtain ⟨t1, ho⟩ := exo_at I1.hok ea
  obtain ⟨mA, hns, hr⟩ := exd_at I1.hok ed
  obtain ⟨od, hod, hl⟩ := lookIn_ns hns
  obtain ⟨u, hu, ru⟩ := RelO.some_of (v := v) (o := mA n) (by rw [← l]; exact hr n)
  have J : PySem.W.InstAt s1.heap a _ C (some od) := ⟨ho, rfl, rfl, hod⟩
  exact HandSPX.exc_get I1.kIn J E.ga E.gt E.sb (PySem.W.findObj_own E.hd hno rfl (by rw [hl, hu])) (handed_of ru) ⟨v, H1, I1.tok _, ru, q⟩⟩
/-- C(e, ..), by C's own __init__ -/
def tXmk (C : Addr) (sp : Sp) (ta : TA) : TE := fun σ H Q => ta σ H fun vs H1 => vs.length ≤ 1000 ∧ ∀ a, H1 a = none → sp (.ref a :: (vs ++ [])) (upd H1 a (exo a C none)) (fun v H2 => v = .non ∧ Q (.ref a) H2) E0
theorem pe_xmk {e : Expr} {es : List Expr} {ta : TA} {p pos : Pos} {x : Str} {C fI : Addr} {k : Nat} {fd : FuncData} {ps : List Str} {sp : Sp} (T : OexC X.K C) (iC : PySem.W.findIn X.K (.ref C) "__init__" = some (some (.ref fI))) (tI : PySem.W.typeIn X.K (.ref fI) = some (.type "function"))
    (F1 : FnOk X.prog X.w X.K X.mg X.base CX0 k fI fd ps sp) (hr : Room (k + 1) X.A) (hb : Binds X.K fd ps []) (hm : X.mg x = some (.ref C)) (ha : PA X (e :: es) ta) (hg : Gl X x := by rfl)
    (hdb : (x == ("__debug__" : Str)) = false := by decide) (he : starEach (e :: es) X.env = (false, eval e X.env) :: starEach es X.env := by rfl) (hpl : (backTo pos (starEach es X.env)).any (·.1) = false := by rfl) :
    PE X (.Call (.Name x p) (e :: es) [] pos) (tXmk C sp ta) := ⟨fun pins s σ H Q I h => by
  obtain ⟨nm, q, N, bs, bm, sn, sub, ab, col, dd, k0, k1, k2, k3, k5, hC, hbm⟩ := T.cls
  refine wpAny_Call_Name_kw (ld_glob I hg hm (PySem.W.callWith_K (h₀ := X.base) I.ok.mod.kin T.kC (thn (ha.run pos pins s σ H _ I h) fun us s1 ⟨vs, H1, I1, r1, hz, q1⟩ => ⟨I1.kIn, ?_⟩) he hpl) hdb)
  show wpAny _ _ (call (.ref C) us) _ _ _
  obtain ⟨hp, g, dr, tk, os⟩ := s1
  have hn : H1 (hp.objs.size + 1) = none := I1.hok.fresh (Nat.le_succ _)
  have hq := q1 (hp.objs.size + 1) hn
  have hget : ((hp.push (PySem.W.kdv_tup us)).push (PySem.HandSPX.excO C hp.objs.size)).get? (hp.objs.size + 1) = some (PySem.HandSPX.excO C hp.objs.size) := by heap_get
  have I2 : Inv X pins σ (upd H1 (hp.objs.size + 1) (exo (hp.objs.size + 1) C none)) ⟨(hp.push (PySem.W.kdv_tup us)).push (PySem.HandSPX.excO C hp.objs.size), g, dr, tk, os⟩ := I1.laid (t' := tk) (a := hp.objs.size + 1) (o := exo (hp.objs.size + 1) C none) (h' := (hp.push (PySem.W.kdv_tup us)).push (PySem.HandSPX.excO C hp.objs.size)) (fun b o e => Heap.get?_push_of_some _ (Heap.get?_push_of_some _ e)) (Nat.le_succ _) (exo_ok hget)
  have r2 : Vals (V.ref (hp.objs.size + 1) :: (vs ++ [])) (Value.ref (hp.objs.size + 1) :: (us ++ [])) := .cons rfl (r1.append .nil)
  have hl : (Value.ref (hp.objs.size + 1) :: us ++ []).length = ps.length := (F1.len _ _ _ _ hq ▸ r2.length).symm
  have hus : us.length ≤ sizeLine := by
    rw [← Paired.length r1, sizeLine_eq]
    omega
  refine wpAny_call (PySem.HandSPX.call_own F.excBase_ValueError (fun Y => PySem.HandSPX.refsVE_contains Y bm hbm) (I1.kIn _ _ hC) (PySem.W.looks_findIn I1.kIn iC) (fun self => PySem.W.bind_fn I1.kIn self tI) hus ?_)
  refine codeAny_mono (F1.run _ X.stack _ _ ⟨Value.ref (hp.objs.size + 1) :: us, []⟩ (Value.ref (hp.objs.size + 1) :: (us ++ [])) _ _ E0 (hr.make C us []) (I2.env0.make C us []) (by have z := hb _ (Value.ref (hp.objs.size + 1) :: us) I2.kIn hl; rw [List.cons_append] at z; exact z) r2 hq) fun r s' hq' => ?_
  cases r with
  | error er => exact hq'.elim
  | ok fl =>
    cases fl with
    | ret u =>
      obtain ⟨v, H2, J, rv, ev, q2⟩ := I2.after hq'
      subst ev
      exact ⟨rv, .ref (hp.objs.size + 1), H2, J, rfl, q2⟩
    | next => exact hq'.elim
    | brk => exact hq'.elim
    | cont => exact hq'.elim⟩
/-- C() of a class without own __init__ -/
def tXmk0 (C : Addr) : TE := fun _ H Q => ∀ a, H a = none → Q (.ref a) (upd H a (exo a C none))
theorem pe_xmk0 {x : Str} {C : Addr} {bmB : List Value} {B newId initId : String} {p pos : Pos} (F : ExcBaseFacts B newId initId bmB) (q : PySem.W.excIn X.K C bmB newId = true) (kC : PySem.W.keepIn X.K (.ref C) = true) (hm : X.mg x = some (.ref C)) (hg : Gl X x := by rfl)
    (hdb : (x == ("__debug__" : Str)) = false := by decide) : PE X (.Call (.Name x p) [] [] pos) (tXmk0 C) := ⟨fun pins s σ H Q I h => by
  refine wpAny_Call_Name_kw (ld_glob I hg hm (PySem.W.callWith_K0 I.kIn kC ?_) hdb)
  show wpAny _ _ (call (.ref C) []) _ _ _
  obtain ⟨bm, N, nm, qn, bs, hdct, sn, sub, ab, col, dd, k0, k1, k2, k3, k5, mN, hC, hN, hni, T⟩ := exc_obj I.kIn q
  refine wpAny_call_exc_subT F T hC hN hni (fun h' a hmk => ?_) (by rw [sizeLine_eq]; exact Nat.zero_le _)
  have hn : H a = none := I.hok.gone hmk.new
  obtain ⟨t, ht, _, _⟩ := hmk.there
  exact ⟨.ref a, upd H a (exo a C none), I.laidN hmk.keeps hmk.new hn (exo_ok ht), rfl, h a hn⟩⟩
end
end Pw

set_option maxHeartbeats 1000000
namespace Pw
open PySem PySem.Spec PyProof.Rows L2 Evl
/-- the promise of an __init__ that stores its two arguments -/
def spX2 (C : Addr) (f1 f2 : Str) : Sp := fun vs H Q _ => ∃ (a : Addr) (v1 v2 : V), vs = [.ref a, v1, v2] ∧ H a = some (exo a C none) ∧
  ∀ dx H', H dx = none → dx ≠ a → H' a = some (exo a C (some dx)) → H' dx = some (exd dx [(f2, v2), (f1, v1)]) → (∀ b, b ≠ a → b ≠ dx → H' b = H b) → Q .non H'
section
variable {P : Program} {w : World} {K : PySem.W.Frag} {mg : Str → Option Value} {base : Heap}
/-- the body: self.f1 = .., self.f2 = .. -/
theorem init2 {C fI : Addr} {fd : FuncData} {qual f1 f2 g1 g2 : Str} {params : Arguments} {body : List Stmt} {scope : Scope} {p1 p2 p3 p4 p5 p6 p7 p8 : Pos} (F : FunD K "__init__" qual params body scope [] [] fI fd) (S : FnScope [("self" : Str), g1, g2] [("self" : Str), g1, g2] scope)
    (T : OexC K C) (n1 : PySem.W.findIn K (.ref C) f1 = some none) (n2 : PySem.W.findIn K (.ref C) f2 = some none)
    (hd : ∀ (X : Cx), X.N = [("self" : Str), g1, g2] → X.env.scope = scope → X.K = K → PSs X body (tSeq (tOst X.K f1 (tVar 0) (tVar 1)) (tOst X.K f2 (tVar 0) (tVar 2)))) : FnOk P w K mg base CX0 1 fI fd [("self" : Str), g1, g2] (spX2 C f1 f2) := by
  refine F.ok S (fun vs H Q E h => ?_) fun cdv A outer s H vs Q E hr h => ⟨_, hd _ rfl rfl rfl, ?_⟩
  · obtain ⟨a, v1, v2, rfl, _⟩ := h
    rfl
  · obtain ⟨a, v1, v2, rfl, ha, q⟩ := h
    refine ⟨v1, rfl, .ref a, rfl, a, C, rfl, T, n1, .inl ⟨ha, fun dx hx ne => ?_⟩⟩
    refine ⟨v2, rfl, .ref a, rfl, a, C, rfl, T, n2, .inr ⟨dx, [(f1, v1)], upd_same, ?_, (by show 1 ≤ 900; decide), ?_⟩⟩
    · rw [upd_ne ne, upd_same]
    · refine q dx _ hx ne ?_ upd_same fun b h1 h2 => ?_
      · rw [upd_ne ne.symm, upd_same]
      · rw [upd_ne h2, upd_ne h1, upd_ne h2]
end
section
variable {K : PySem.W.Frag} {env : En} {te tb : TE} {ta : TA} {d e z : Dt} {ds : List Dt}
theorem ee_xmk {C : Addr} {f1 f2 : Str} (h : EeA K ta env [d, e]) : Ee K (tXmk C (spX2 C f1 f2) ta) env (.exc C [f2, f1] [e, d]) := fun F0 H0 F H σ S Q q =>
  h F0 H0 F H σ S _ fun vs F1 H1 w r => by
    obtain ⟨v1, r1, rfl, q1, v2, r2, rfl, q2, e3⟩ := r
    cases e3
    refine ⟨by show 2 ≤ 1000; decide, fun a ha => ⟨a, v1, v2, rfl, upd_same, fun dx H' hx ne h1 h2 hk => ⟨rfl, ?_⟩⟩⟩
    have hx1 : H1 dx = none := by
      rw [upd_ne ne] at hx
      exact hx
    have nF : ∀ b, H1 b = none → F1 b = none := fun b hb => none_sub w.s hb
    have eF : Ex F1 (L2.upd (L2.upd F1 a (exo a C (some dx))) dx (exd dx [(f2, v2), (f1, v1)])) := fun b o hb => by
      rw [upd_ne (ne_of_none hb (nF dx hx1)), upd_ne (ne_of_none hb (nF a ha))]
      exact hb
    refine q (.ref a) (L2.upd (L2.upd F1 a (exo a C (some dx))) dx (exd dx [(f2, v2), (f1, v1)])) H' (w.trans ⟨eF, fun b o hb => ?_, fun b o hb => ?_, fun b o hb n => ?_⟩) ?_
    · rw [hk b (ne_of_none hb ha) (ne_of_none hb hx1), upd_ne (ne_of_none hb ha)]
      exact hb
    · by_cases z1 : b = dx
      · subst z1
        rw [upd_same] at hb
        rw [h2, ← hb]
      · rw [upd_ne z1] at hb
        by_cases z2 : b = a
        · subst z2
          rw [upd_same] at hb
          rw [h1, ← hb]
        · rw [upd_ne z2] at hb
          rw [hk b z2 z1, upd_ne z2]
          exact w.s b o hb
    · rw [upd_ne (ne_of_none hb hx1), upd_ne (ne_of_none hb ha)]
      exact n
    · refine ⟨a, [v2, v1], rfl, rfl, ⟨v2, [v1], rfl, q2.mono eF, v1, [], rfl, q1.mono eF, rfl⟩, .inr ⟨dx, ?_, upd_same⟩⟩
      rw [upd_ne ne.symm, upd_same]
theorem ee_xmk0 {C : Addr} : Ee K (tXmk0 C) env (.exc C [] []) := fun F0 H0 F H σ S Q q a ha =>
  q (.ref a) (L2.upd F a (exo a C none)) _ (Wk.new S.sub _ ha) ⟨a, [], rfl, rfl, rfl, .inl ⟨rfl, upd_same⟩⟩
theorem xat_of {F H : Hp} {C : Addr} {fs : List Str} {v : V} (s : Ex F H) (r : Rp K F (.exc C fs ds) v) : ∃ a d, v = .ref a ∧ XAt H a C d := by
  obtain ⟨a, vs, rfl, _, _, h⟩ := r
  rcases h with ⟨_, h⟩ | ⟨dx, h1, h2⟩
  · exact ⟨a, none, rfl, s _ _ h, .inl rfl⟩
  · exact ⟨a, some dx, rfl, s _ _ h1, .inr ⟨dx, _, rfl, s _ _ h2⟩⟩
theorem rl_isx {C D : Addr} {fs : List Str} {b : Bool} (E : ExV K C) (h : PySem.W.kitOne K (.ref C) (.ref D) = some b) : RLd K (rIsx K) [.exc C fs ds, .adr D] (.bl b) := fun F H vs s r Q q => by
  obtain ⟨v, r1, rfl, e1, v2, r2, rfl, e2, e3⟩ := r
  cases e2; cases e3
  obtain ⟨a, d, rfl, hx⟩ := xat_of s e1
  exact ⟨a, C, d, .ref D, .ref D, b, rfl, hx, .own D, E, h, q _ F H (Wk.refl s) rfl⟩
theorem rl_isxT {C : Addr} {n : String} {fs : List Str} {b : Bool} (E : ExV K C) (h : PySem.W.kitOne K (.ref C) (.type n) = some b) : RLd K (rIsx K) [.exc C fs ds, .ty n] (.bl b) := fun F H vs s r Q q => by
  obtain ⟨v, r1, rfl, e1, v2, r2, rfl, e2, e3⟩ := r
  cases e2; cases e3
  obtain ⟨a, d, rfl, hx⟩ := xat_of s e1
  exact ⟨a, C, d, .ty n, .type n, b, rfl, hx, .ty n, E, h, q _ F H (Wk.refl s) rfl⟩
theorem zip_lookup {K : PySem.W.Frag} {F : Hp} {n : Str} : ∀ {fs : List Str} {ds : List Dt} {vs : List V} {d : Dt}, RpL K F ds vs → (fs.zip ds).lookup n = some d → ∃ v, (fs.zip vs).lookup n = some v ∧ Rp K F d v
  | [], ds, vs, d, _, h => by simp at h
  | f :: fs, [], vs, d, _, h => by simp at h
  | f :: fs, e :: ds, vs, d, r, h => by
    obtain ⟨v, r', rfl, q1, q2⟩ := r
    rw [List.zip_cons_cons, List.lookup_cons] at h ⊢
    by_cases z : (n == f) = true
    · rw [z] at h ⊢
      cases h
      exact ⟨v, rfl, q1⟩
    · have z : (n == f) = false := by simpa using z
      rw [z] at h ⊢
      exact zip_lookup q2 h
theorem ee_xat {C : Addr} {n : Str} {f : Str} {fs : List Str} (h : Ee K te env (.exc C (f :: fs) ds)) (E : ExV K C) (hn : PySem.W.findIn K (.ref C) n = some none) (hl : ((f :: fs).zip ds).lookup n = some d) : Ee K (tXat K n te) env d := fun F0 H0 F H σ S Q q =>
  h F0 H0 F H σ S _ fun v F1 H1 w r => by
    obtain ⟨a, vs, rfl, l1, rl, h⟩ := r
    rcases h with ⟨z, _⟩ | ⟨dx, h1, h2⟩
    · cases z
    · obtain ⟨u, g1, g2⟩ := zip_lookup rl hl
      exact ⟨a, C, dx, _, u, rfl, w.s _ _ h1, w.s _ _ h2, E, hn, g1, q u F1 H1 w g2⟩
/-- xs + ys, xs an own list, ys a new one -/
theorem en_cat {i : Nat} {es : List Dt} (hi : env[i]? = some (.ol ds)) (h : EnL K tb env es) (hz : ds.length + es.length ≤ 100000) : EnL K (tOp rCat (tVar i) tb) env (ds ++ es) := fun F0 H0 F H σ S Q q => by
  obtain ⟨v, h1, a, vs, rfl, g1, g2, g3, g4⟩ := S.sl i _ hi
  refine ⟨_, h1, h F0 H0 F H σ S _ fun p us F1 H1 w n1 n2 k1 k2 => ⟨a, p, vs, us, rfl, rfl, w.h a _ g3, k1, by rw [← g4.length, ← k2.length]; exact sz_of hz, fun l hl => ?_⟩⟩
  exact q l _ F1 _ (w.trans (Wk.own w.s _ hl)) (fresh_back w.h hl) (none_sub w.s hl) upd_same (RpL.append (g4.mono w.f) k2)
end
end Pw
namespace Pw
open PySem PySem.Spec PyProof.Rows L2 Evl
/-- the class x of the text, at C, makes exceptions by its own __init__ with the promise sp -/
def Xm (P : Program) (w : World) (K : PySem.W.Frag) (mg : Str → Option Value) (base : Heap) (x : Str) (C : Addr) (sp : Sp) : Prop :=
  ∃ (fI : Addr) (fd : FuncData) (ps : List Str), mg x = some (.ref C) ∧ OexC K C ∧ PySem.W.findIn K (.ref C) "__init__" = some (some (.ref fI)) ∧ PySem.W.typeIn K (.ref fI) = some (.type "function") ∧ Binds K fd ps [] ∧ FnOk P w K mg base CX0 1 fI fd ps sp
/-- .. without an __init__ -/
def Xm0 (K : PySem.W.Frag) (mg : Str → Option Value) (x : Str) (C : Addr) : Prop :=
  mg x = some (.ref C) ∧ PySem.W.excIn K C [.type "ValueError", .type "Exception", .type "BaseException", .type "object"] "ValueError.__new__" = true ∧ PySem.W.keepIn K (.ref C) = true
section
variable {X : Cx}
theorem pe_xm {x : Str} {C : Addr} {sp : Sp} {e : Expr} {es : List Expr} {ta : TA} {p pos : Pos} (G : Xm X.prog X.w X.K X.mg X.base x C sp) (hr : Room 2 X.A) (ha : PA X (e :: es) ta) (hg : Gl X x := by rfl)
    (hdb : (x == ("__debug__" : Str)) = false := by decide) (he : starEach (e :: es) X.env = (false, eval e X.env) :: starEach es X.env := by rfl) (hpl : (backTo pos (starEach es X.env)).any (·.1) = false := by rfl) :
    PE X (.Call (.Name x p) (e :: es) [] pos) (tXmk C sp ta) := by
  obtain ⟨fI, fd, ps, h1, h2, h3, h4, h5, h6⟩ := G
  exact pe_xmk h2 h3 h4 h6 hr h5 h1 ha hg hdb he hpl
theorem pe_xm0 {x : Str} {C : Addr} {p pos : Pos} (G : Xm0 X.K X.mg x C) (hg : Gl X x := by rfl) (hdb : (x == ("__debug__" : Str)) = false := by decide) : PE X (.Call (.Name x p) [] [] pos) (tXmk0 C) :=
  pe_xmk0 PySem.F.excBase_ValueError G.2.1 G.2.2 G.1 hg hdb
end
end Pw
namespace Pw
open PySem PySem.Spec PyProof.Rows L2 Evl
theorem pe_globR {X : Cx} {x : Str} {a : Addr} {pos : Pos} (h : X.mg x = some (.ref a)) (hg : Gl X x := by rfl) (hd : (x == ("__debug__" : Str)) = false := by decide) : PE X (.Name x pos) (tC (.ref a)) := pe_glob hg h rfl hd
end Pw
namespace Pw
open PySem PySem.Spec PyProof.Rows L2 Evl
section
variable {K : PySem.W.Frag} {env : En} {te : TE} {tA : TA} {g : TG} {tb : TS}
theorem rangeD_nat (n : Nat) : rangeD 0 (n : Int).toNat = (List.range n).map fun (i : Nat) => Dt.int (i : Int) := by
  unfold rangeD
  rw [Int.toNat_natCast]
  refine List.map_congr_left fun i _ => ?_
  rw [Int.zero_add]
/-- for i in range(n) -/
theorem se_rng {S : Type} (n : Nat) (h : EeA K tA env [.int (n : Int)]) (hn : n ≤ 100000) (enc : S → En) (step : S → Nat → S) (P : S → Nat → Prop) (s0 : S) (h0 : Le env (enc s0)) (p0 : P s0 0)
    (hs : ∀ s (i : Nat), i < n → P s i → P (step s i) (i + 1) ∧ ∃ e1, Ge K g (.int (i : Int)) (enc s) e1 ∧ Se K tb e1 (.nc (enc (step s i)))) : Se K (tFor (iRng1 tA) g tb) env (.nx (enc ((List.range n).foldl step s0))) := by
  refine se_fold (List.range n) (fun i => Dt.int (i : Int)) (rangeD_nat n) (ie_rng1 h (by omega)) enc step (fun s pre => P s pre.length) s0 h0 p0 fun s pre i post hx hp => ?_
  have hi : pre.length < n ∧ i = pre.length := by
    have h1 := congrArg List.length hx
    have h2 : (List.range n)[pre.length]? = some i := by rw [hx]; simp
    simp at h1
    rw [List.getElem?_range (by omega)] at h2
    exact ⟨by omega, (Option.some.inj h2).symm⟩
  obtain ⟨hl, rfl⟩ := hi
  obtain ⟨h1, h2⟩ := hs s pre.length hl hp
  refine ⟨?_, h2⟩
  rw [List.length_append]
  exact h1
theorem en_rng {j n : Nat} (h : EeA K tA env [.int (n : Int)]) (hn : n ≤ 40000) (v : Nat → Dt) (he : ∀ i : Nat, i < n → Ee K te (env.set j (.d (.int (i : Int)))) (v i)) : EnL K (tLc (iRng1 tA) (gName j) tYes te [j]) env ((List.range n).map v) := by
  have hl : (rangeD 0 (n : Int).toNat).length ≤ 40000 := by rw [rangeD_nat]; simpa using hn
  have h1 := en_map (K := K) (te := te) (j := j) (ie_rng1 h (by omega)) hl (fun d => match d with | .int x => v x.toNat | _ => .non) fun d hd => by
    rw [rangeD_nat] at hd
    obtain ⟨i, hi, rfl⟩ := List.mem_map.mp hd
    exact he i (by simpa using hi)
  rw [rangeD_nat, List.map_map] at h1
  exact h1
end
end Pw

set_option maxHeartbeats 3200000
namespace Qs
open PySem PySem.Spec PyProof.Rows L2
/-! ### set(xs), xs a list of ints and texts -/
def memK (ks : List Key) : Key → Bool := fun k => ks.any fun j => decide (k = j)
theorem setOf_eq {P : Program} {w : World} {h : Heap} {a : Addr} {S T : Key → Bool} {n : Nat} (q : h.SetOf (mixKind P w) a S n) (e : ∀ k, S k = T k) : h.SetOf (mixKind P w) a T n := (funext e : S = T) ▸ q
section
variable {prog : Program} {w : World} {A : Around} {R : Result → Shared → Prop} {I : Addr} {fp wr : List Addr}
  {G : Array GenState → Array GenState → Prop} {n : Nat} {Y : Nat → Value → Prop} {St : Nat → Shared → Prop}
def SetUp (prog : Program) (w : World) (S : Addr) (ks : List Key) (i : Nat) (h : Heap) : Prop :=
  ∃ m, m ≤ i ∧ h.SetOf (mixKind prog w) S (memK (ks.take i)) m
theorem SetUp.move {S : Addr} {ks : List Key} {i : Nat} {h h' : Heap} (q : SetUp prog w S ks i h) (k : ∀ o, h.get? S = some o → h'.get? S = some o) : SetUp prog w S ks i h' := by
  obtain ⟨m, hm, r⟩ := q
  exact ⟨m, hm, setOf_at r k⟩
theorem updates (W : WalksS prog w A.in1 I fp wr G n Y St) (S : Addr) (nS : S ∉ fp) (ks : List Key)
    (hY : ∀ i v, Y i v → ∃ k, ks[i]? = some k ∧ RelV (kV k) v) (hb : n + 1 < scanBound) :
    ∀ (left i : Nat) (s : Shared), n - i = left → i ≤ n → St i s → SetUp prog w S ks i s.heap →
      (∀ s', Moved (S :: wr) G s s' → SetUp prog w S ks n s'.heap → R (.ok (.ret .none)) s') →
      codeAny (model prog w) A (.builtin "set.update.loop" ⟨[.ref S, .ref I], []⟩) R s := by
  have nw : S ∉ wr := fun z => nS (W.sub _ z)
  have sub : ∀ b ∈ wr, b ∈ S :: wr := fun b z => List.mem_cons_of_mem _ z
  intro left
  induction left with
  | zero =>
    intro i s e le st up done
    obtain rfl : i = n := by omega
    refine codeAny_builtin F.entry_set_update_loop ?_
    rw [Around.under_plainId F.plain_set_update_loop _]
    refine wpAny_bind (m := pyNext (.ref I)) (W.done s _ _ st fun s' hm => ?_)
    exact wpAny_pure (done s' (hm.mono sub) (up.move fun o z => hm.heap S _ nw z))
  | succ left ih =>
    intro i s e le st up done
    have lt : i < n := by omega
    refine codeAny_builtin F.entry_set_update_loop ?_
    rw [Around.under_plainId F.plain_set_update_loop _]
    refine wpAny_bind (m := pyNext (.ref I)) (W.item i s _ _ lt st fun v s' y st' hm => ?_)
    obtain ⟨k, hk, rk⟩ := hY i v y
    obtain ⟨m, hmi, up'⟩ := up.move (h' := s'.heap) fun o z => hm.heap S _ nw z
    have isk := kV_is (P := prog) (w := w) rk
    refine wpAny_bind (m := holding [v] (setAdd S v)) (wpAny_holding ?_)
    unfold setAdd
    refine wpAny_holding (wpAny_bind ((mixKind prog w).pyHash isk ?_))
    refine wpAny_setAddHashed_of (s := { s' with toks := s'.toks + 1 }) isk (key_scan rk) up' (by omega) fun h' sb up2 => ?_
    have next : SetUp prog w S ks (i + 1) h' := by
      refine ⟨_, ?_, setOf_eq up2 fun j => ?_⟩
      · split <;> omega
      · show (memK (ks.take i) j || decide (j = k)) = memK (ks.take (i + 1)) j
        rw [List.take_add_one, hk]
        simp [memK]
    refine wpAny_pure ⟨plainId_quiet F.plain_set_update_loop _, ih (i + 1) _ (by omega) lt (W.frame _ s' _ _ st' (Nat.le_succ _) fun b hb o z => ?_) next fun s2 m2 u2 => ?_⟩
    · rw [sb.2 b (fun z : b = S => nS (z ▸ hb))]
      exact z
    · refine done s2 (Moved.trans W.gtrans ((hm.mono sub).then_heap (Nat.le_succ _) fun b o hb z => ?_) m2) u2
      rw [sb.2 b (fun z : b = S => hb (z ▸ List.mem_cons_self))]
      exact z
end

section
variable {prog : Program} {w : World} {A : Around} {E : Value → Shared → Prop} {s : Shared}
/-- what is known behind set(xs) -/
def SetMade (prog : Program) (w : World) (s : Shared) (ks : List Key) (h' : Heap) : Prop :=
  SetUp prog w s.heap.objs.size ks ks.length h' ∧ ∀ b o, b < s.heap.objs.size → s.heap.get? b = some o → h'.get? b = some o
theorem keysAt : ∀ {ks : List Key} {us : List Value}, Vals (ks.map kV) us → ∀ (i : Nat) (v : Value), us[i]? = some v → ∃ k : Key, ks[i]? = some k ∧ RelV (kV k) v
  | [], _, r, i, v, e => by
    cases r
    simp at e
  | k :: ks, _, r, 0, v, e => by
    cases r with
    | cons h t =>
      simp at e
      subst e
      exact ⟨k, rfl, h⟩
  | k :: ks, _, r, i + 1, v, e => by
    cases r with
    | cons h t => exact keysAt t i v (by simpa using e)
theorem keysLen : ∀ {ks : List Key} {us : List Value}, Vals (ks.map kV) us → ks.length = us.length
  | [], _, r => by cases r; rfl
  | k :: ks, _, r => by
    cases r with
    | cons h t => simp [keysLen t]
abbrev freshSet (led : Bool) : Obj := { cls := .type "set", dict := none, data := .set #[] 0 (.fresh 0 0 led) }
theorem init_set {l : Addr} {items : Array Value} {ks : List Key} (led : Bool) (calm : A.handled = none) (hl : s.heap.IsList l items)
    (hi : Vals (ks.map kV) items.toList) (hb : ks.length + 1 < scanBound) :
    codeAny (model prog w) A (.call (.builtin "set.__init__") ⟨[.ref s.heap.objs.size, .ref l], []⟩)
      (wants (fun r s2 => r = .none ∧ ∃ h' tk, s2 = { s with heap := h', toks := tk } ∧ SetMade prog w s ks h') E)
      { s with heap := s.heap.push (freshSet led) } := by
  have len : ks.length = items.size := by simpa using keysLen hi
  have atS : (s.heap.push (freshSet led)).get? s.heap.objs.size = some (freshSet led) := Heap.get?_push_size _ rfl
  have tyS : Shared.TypeIs { s with heap := s.heap.push (freshSet led) } (.ref s.heap.objs.size) "set" := ⟨_, atS, rfl⟩
  obtain ⟨ol, hol, hc, nl, hd⟩ := hl
  have ltL : l < s.heap.objs.size := Heap.lt_size hol
  obtain ⟨ocls, odict, odata, oslots⟩ := ol
  simp only at hc hd
  subst hc hd
  have atL : (s.heap.push (freshSet led)).get? l = some { cls := .type "list", dict := odict, data := .seq items nl, slots := oslots } := Heap.get?_push_of_some _ hol
  have isL : (s.heap.push (freshSet led)).IsList l items := ⟨_, atL, rfl, nl, rfl⟩
  refine codeAny_call_builtin PySem.F.called_set.init.plain PySem.F.entry_set_init (check_set_init_1 tyS ?_)
  have f1 := PySem.F.sub_list_set
  have f2 := PySem.F.sub_list_frozenset
  have f3 : (Value.type "list" == Value.type "dict") = false := by decide
  unfold Builtin.«set.__init__» noKeywords Builtin.Frozenset.updateFrom
  generalize walk : pyIter = it
  wp_walk
  subst walk
  refine wpAny_pyIter_list isL (wpAny_bind (wpAny_runValue ?_))
  have hh : A.in1.in1.handled = none := by simp [calm]
  have sz : (s.heap.push (freshSet led)).objs.size = s.heap.objs.size + 1 := Heap.size_push _ _
  have n1 : l ≠ (s.heap.push (freshSet led)).objs.size := by
    rw [sz]
    exact Nat.ne_of_lt (Nat.lt_succ_of_lt ltL)
  have n2 : s.heap.objs.size ∉ [(s.heap.push (freshSet led)).objs.size, l] := by
    rw [sz]
    simp only [List.mem_cons, List.not_mem_nil, or_false, not_or]
    exact ⟨Nat.ne_of_lt (Nat.lt_succ_self _), Nat.ne_of_gt ltL⟩
  refine updates (ks := ks) ((Walks.list hh _ l n1 items).toS) s.heap.objs.size n2 (fun i v hv => keysAt hi i v (by rw [Array.getElem?_toList]; exact hv))
    (by rw [← len]; exact hb) (items.size - 0) 0 _ (by omega) (Nat.zero_le _) ?start ⟨0, Nat.le_refl _, ?_⟩ fun s' hm up => ?_
  case start => exact ⟨⟨_, Heap.get?_push_size _ rfl, rfl, rfl⟩, isL.push _⟩
  · have at2 : ((s.heap.push (freshSet led)).push { cls := .type "list_iterator", data := .fields #[.ref l, .int 0 0] }).get? s.heap.objs.size = some (freshSet led) := Heap.get?_push_of_some _ atS
    exact ⟨_, #[], 0, _, at2, ⟨rfl, rfl, rfl⟩, rfl, fun e z => by simp at z, fun k => by simp [memK], by decide, rfl, rfl⟩
  · obtain ⟨h', g', d', tk', os'⟩ := s'
    obtain rfl : g' = s.gens := hm.gens
    obtain rfl : d' = s.drawn := hm.drawn
    obtain rfl : os' = s.os := hm.os
    refine wpAny_pure (wpAny_pure ⟨rfl, h', tk', rfl, by rw [len]; exact up, fun b o hb e => ?_⟩)
    refine hm.heap b o ?_ (Heap.get?_push_of_some _ (Heap.get?_push_of_some _ e))
    rw [sz]
    simp only [List.mem_cons, List.not_mem_nil, or_false, not_or]
    exact ⟨Nat.ne_of_lt hb, Nat.ne_of_lt (Nat.lt_succ_of_lt hb)⟩
theorem made_set {l : Addr} {items : Array Value} {ks : List Key} {Q : Value → Shared → Prop} (calm : A.handled = none) (hl : s.heap.IsList l items)
    (hi : Vals (ks.map kV) items.toList) (hb : ks.length + 1 < scanBound)
    (fin : ∀ (h' : Heap) (tk : Nat), SetMade prog w s ks h' → Q (.ref s.heap.objs.size) { s with heap := h', toks := tk }) :
    wpAny (model prog w) A (call (.type "set") [.ref l]) Q E s := by
  obtain ⟨c, tl, mro⟩ := PySem.F.called_set.mro
  have q1 := PySem.F.called_set.made
  have q2 := PySem.F.called_set.sub
  have q3 := PySem.F.called_set.notType
  have q4 := PySem.F.called_set.canCreate
  have q5 := PySem.F.typeCall_set_1 (.ref l)
  refine wpAny_call (codeAny_of_tree ?_)
  show wpAny _ _ (callAny (.type "set") _) _ _ _
  refine wpAny_pure ⟨Code.quiet_builtin _ (by decide +kernel), codeAny_builtin PySem.F.entry_type_call ?_⟩
  rw [Around.under_plain (weight_type_call_type "set" [.ref l] []) rfl]
  repeat (any_goals (first | assumption | wp_step))
  refine codeAny_mono (code_set_new_1 (.ref l) (E := E) (Q₁ := fun obj t => ∃ led : Bool, obj = .ref s.heap.objs.size ∧ t = { s with heap := s.heap.push (freshSet led) }) fun led => ⟨led, rfl, rfl⟩) fun r t hr => ?_
  cases r with
  | error e => exact hr
  | ok fl =>
    cases fl with
    | ret obj =>
      obtain ⟨led, rfl, rfl⟩ := hr
      have tyS : Shared.TypeIs { s with heap := s.heap.push (freshSet led) } (.ref s.heap.objs.size) "set" := ⟨_, Heap.get?_push_size _ rfl, rfl⟩
      have q6 := PySem.F.called_set.init.lookup
      have q7 := PySem.F.called_set.init.bind (.ref s.heap.objs.size)
      repeat (any_goals (first | assumption | wp_step))
      refine codeAny_mono (init_set (E := E) led (by simp [calm]) hl hi hb) fun r2 s2 hr2 => ?_
      cases r2 with
      | error e => exact hr2
      | ok fl2 =>
        cases fl2 with
        | ret r =>
          obtain ⟨rfl, h', tk, rfl, made⟩ := hr2
          repeat (any_goals (first | assumption | wp_step))
          exact fin _ _ made
        | next => exact hr2.elim
        | brk => exact hr2.elim
        | cont => exact hr2.elim
    | next => exact hr.elim
    | brk => exact hr.elim
    | cont => exact hr.elim
/-- set(xs): a new set of the items of a list of ints and texts -/
def rSetL (K : PySem.W.Frag) (P : Program) (w : World) : List V → Hp → VK → Prop := fun xs H Q => ∃ (l : Addr) (ks : List Key), xs = [V.ref l] ∧ SqL K H l (ks.map kV) ∧ ks.length ≤ 4000 ∧
  ∀ p m, m ≤ ks.length → H p = none → Q (.ref p) (upd H p (SetK P w p (memK ks) m))
theorem cr_setL {X : Cx} (hc : X.calm = true) : CallR X (.type "set") (rSetL X.K X.prog X.w) := by
  intro pins s σ H xs us Q I r h
  obtain ⟨l, ks, rfl, hl, few, q⟩ := h
  rw [Vals.ref1 r]
  obtain ⟨its, rv, pl, _⟩ := I.list hl
  refine made_set (ks := ks) (I.ok.hd hc) pl.isList (by simpa using rv) (by unfold scanBound; omega) fun h' tk made => ?_
  obtain ⟨⟨m, hm, up⟩, keep⟩ := made
  rw [List.take_length] at up
  exact ⟨.ref s.heap.objs.size, upd H s.heap.objs.size (SetK X.prog X.w s.heap.objs.size (memK ks) m), I.laid (t' := tk) (fun b o e => keep b o (Heap.lt_size e) e) (Nat.le_refl _) (setK_new up), rfl, q _ m hm (I.hok.fresh (Nat.le_refl _))⟩
end
end Qs

set_option maxHeartbeats 1000000
/-! ### the state: slots that hold data, or a thing of one's own (it may be changed) -/
namespace Qw
open PySem PySem.Spec PyProof.Rows L2 Evl
open Pw (Dt Rp RpL Wk none_sub get_set set_same set_ne R2d R1d RLd RLn Kq KqL)
inductive Ow where
  | lst (ds : List Dt) | dic (ks : List Key) (ds : List Dt) | dit (ks : List (List Key)) (ds : List Dt)
  | set (S : Key → Bool) (n : Nat) | ins (C : Addr) (fs : List Str) (ds : List Dt)
def OwOk (P : Program) (w : World) (K : PySem.W.Frag) (F : Hp) (a : Addr) : Ow → HO → Prop
  | .lst ds, o => ∃ vs, o = .lst vs ∧ RpL K F ds vs
  | .dic ks ds, o => ∃ vs, o = .dK (ks.zip vs) ∧ ks.length = vs.length ∧ RpL K F ds vs
  | .dit ks ds, o => ∃ vs, o = .dT (ks.zip vs) ∧ ks.length = vs.length ∧ RpL K F ds vs
  | .set S n, o => ∃ m, m ≤ n ∧ o = SetK P w a S m
  | .ins C fs ds, o => ∃ dx vs, o = .ins C dx (fs.zip vs) ∧ fs.length = vs.length ∧ RpL K F ds vs
/-- an exception of a class of the text -/
structure Xn where
  C : Addr
  fs : List Str
  ds : List Dt
def XnOk (K : PySem.W.Frag) (F : Hp) (x : Xn) (od : Option Addr) : Prop := (x.fs = [] ∧ od = none) ∨ ∃ dx vs, od = some dx ∧ x.fs.length = vs.length ∧ RpL K F x.ds vs ∧ F dx = some (.xd (x.fs.zip vs))
theorem XnOk.mono {K : PySem.W.Frag} {F F' : Hp} {x : Xn} {od : Option Addr} (e : Ex F F') (h : XnOk K F x od) : XnOk K F' x od := by
  rcases h with h | ⟨dx, vs, h1, h2, h3, h4⟩
  · exact .inl h
  · exact .inr ⟨dx, vs, h1, h2, h3.mono e, e _ _ h4⟩
inductive Sl where
  | x | u | d (d : Dt) | ow (t : Option Addr) (w : Ow) | ex (a : Addr) (od : Option Addr) (e : Xn)
abbrev Sl.ol (ds : List Dt) : Sl := .ow none (.lst ds)
abbrev En := List Sl
section
variable (P : Program) (w : World) (K : PySem.W.Frag)
def SlOk (F H0 H : Hp) (v : Option V) : Sl → Prop
  | .x => True
  | .u => v = none
  | .d d => ∃ y, v = some y ∧ Rp K F d y
  | .ow t u => ∃ p o, v = some (.ref p) ∧ (∀ q, t = some q → p = q) ∧ F p = none ∧ H0 p = none ∧ H p = some o ∧ OwOk P w K F p u o
  | .ex a od e => v = some (.ref a) ∧ XnOk K F e od
structure Sm (F0 H0 F H : Hp) (σ : L2.St) (env : En) : Prop where
  e0 : Ex F0 H0
  g : Wk F0 H0 F H
  len : σ.length = env.length
  sl : ∀ (i : Nat) (s : Sl), env[i]? = some s → ∃ v, σ[i]? = some v ∧ SlOk P w K F H0 H v s
  df : ∀ (i j : Nat) (t t' : Option Addr) (u u' : Ow) (p : Addr), i ≠ j → env[i]? = some (.ow t u) → env[j]? = some (.ow t' u') → σ[i]? = some (some (.ref p)) → σ[j]? ≠ some (some (.ref p))
end
/-- the addresses of the things of one's own -/
def Own (σ : L2.St) (env : En) (a : Addr) : Prop := ∃ (i : Nat) (t : Option Addr) (u : Ow), env[i]? = some (.ow t u) ∧ σ[i]? = some (some (.ref a))
/-- how the heaps go on while an expression is worked out -/
structure Wo (σ : L2.St) (env : En) (F H F' H' : Hp) : Prop where
  f : Ex F F'
  h : ∀ a o, H a = some o → ¬ Own σ env a → H' a = some o
  s : Ex F' H'
  n : ∀ a o, H a = some o → F a = none → F' a = none
  b : ∀ a, H' a = none → H a = none
/-- the same slots are one's own -/
def Sh (e e' : En) : Prop := e.length = e'.length ∧ ∀ (i : Nat) (s : Sl), e[i]? = some s → e'[i]? = some s ∨ ∃ (t : Option Addr) (u u' : Ow), s = .ow t u ∧ e'[i]? = some (.ow t u')
section
variable {P : Program} {w : World} {K : PySem.W.Frag} {F0 H0 F H F1 H1 F2 H2 F' H' : Hp} {σ : L2.St} {env env1 env2 : En}
theorem Sh.refl : Sh env env := ⟨rfl, fun _ _ h => .inl h⟩
theorem Sh.trans (a : Sh env env1) (b : Sh env1 env2) : Sh env env2 := ⟨a.1.trans b.1, fun i s h => by
  rcases a.2 i s h with h1 | ⟨t, u, u', rfl, h1⟩
  · exact b.2 i s h1
  · rcases b.2 i _ h1 with h2 | ⟨t2, v, v', e, h2⟩
    · exact .inr ⟨t, u, u', rfl, h2⟩
    · cases e
      exact .inr ⟨t, u, v', rfl, h2⟩⟩
theorem Sh.set {i : Nat} {t : Option Addr} {u u' : Ow} (h : env[i]? = some (.ow t u)) : Sh env (env.set i (.ow t u')) := ⟨by simp, fun j s e => by
  by_cases z : i = j
  · subst z
    rw [h] at e
    cases e
    exact .inr ⟨t, u, u', rfl, set_same (List.getElem?_eq_some_iff.mp h).1⟩
  · exact .inl (by rw [set_ne z]; exact e)⟩
theorem Sh.own (a : Sh env env1) {p : Addr} (h : Own σ env1 p) : Own σ env p := by
  obtain ⟨i, t, u, h1, h2⟩ := h
  have hi : i < env.length := by
    rw [a.1]
    exact (List.getElem?_eq_some_iff.mp h1).1
  rcases a.2 i env[i] (List.getElem?_eq_getElem hi) with h | ⟨t', v, v', e, h⟩
  · rw [h1] at h
    refine ⟨i, t, u, ?_, h2⟩
    rw [List.getElem?_eq_getElem hi, ← Option.some.inj h]
  · refine ⟨i, t', v, ?_, h2⟩
    rw [List.getElem?_eq_getElem hi, e]
theorem Wo.refl (s : Ex F H) : Wo σ env F H F H := ⟨Ex.refl F, fun _ _ h _ => h, s, fun _ _ _ h => h, fun _ h => h⟩
theorem Wo.of (k : Wk F H F' H') : Wo σ env F H F' H' := ⟨k.f, fun a o h _ => k.h a o h, k.s, k.n, fun a h => none_sub k.h h⟩
theorem Wo.trans (sh : Sh env env1) (a : Wo σ env F H F1 H1) (b : Wo σ env1 F1 H1 F2 H2) : Wo σ env F H F2 H2 :=
  ⟨a.f.trans b.f, fun p o h n => b.h p o (a.h p o h n) fun z => n (sh.own z), b.s, fun p o h n => (by
    cases e : H1 p with
    | some o' => exact b.n p o' e (a.n p o h n)
    | none =>
      rw [a.b p e] at h
      cases h), fun p h => a.b p (b.b p h)⟩
theorem OwOk.mono {a : Addr} {u : Ow} {o : HO} (e : Ex F F') (h : OwOk P w K F a u o) : OwOk P w K F' a u o := by
  cases u with
  | lst ds => obtain ⟨vs, h1, h2⟩ := h; exact ⟨vs, h1, h2.mono e⟩
  | dic ks ds => obtain ⟨vs, h1, h3, h2⟩ := h; exact ⟨vs, h1, h3, h2.mono e⟩
  | dit ks ds => obtain ⟨vs, h1, h3, h2⟩ := h; exact ⟨vs, h1, h3, h2.mono e⟩
  | set S n => exact h
  | ins C fs ds => obtain ⟨dx, vs, h1, h3, h2⟩ := h; exact ⟨dx, vs, h1, h3, h2.mono e⟩
theorem SlOk.wk {v : Option V} {s : Sl} (k : Wk F H F' H') (h : SlOk P w K F H0 H v s) : SlOk P w K F' H0 H' v s := by
  cases s with
  | x => trivial
  | u => exact h
  | d d => obtain ⟨y, e, r⟩ := h; exact ⟨y, e, r.mono k.f⟩
  | ex a od e => exact ⟨h.1, h.2.mono k.f⟩
  | ow t u =>
    obtain ⟨p, o, e, h0, h1, h2, h3, h4⟩ := h
    exact ⟨p, o, e, h0, k.n p _ h3 h1, h2, k.h p _ h3, h4.mono k.f⟩
theorem Sm.wk (S : Sm P w K F0 H0 F H σ env) (k : Wk F H F' H') : Sm P w K F0 H0 F' H' σ env :=
  ⟨S.e0, S.g.trans k, S.len, fun i s e => by
    obtain ⟨v, h1, h2⟩ := S.sl i s e
    exact ⟨v, h1, h2.wk k⟩, S.df⟩
theorem Sm.sub (S : Sm P w K F0 H0 F H σ env) : Ex F H := S.g.s
/-- an own thing's place -/
theorem Sm.own (S : Sm P w K F0 H0 F H σ env) {i : Nat} {t : Option Addr} {u : Ow} (h : env[i]? = some (.ow t u)) :
    ∃ p o, σ[i]? = some (some (.ref p)) ∧ (∀ q, t = some q → p = q) ∧ F p = none ∧ H0 p = none ∧ H p = some o ∧ OwOk P w K F p u o := by
  obtain ⟨v, h1, p, o, rfl, r⟩ := S.sl i _ h
  exact ⟨p, o, h1, r⟩
theorem Sm.ownNew (S : Sm P w K F0 H0 F H σ env) {p : Addr} (h : H p = none) : ¬ Own σ env p := fun ⟨i, t, u, e, z⟩ => by
  obtain ⟨q, o, h1, _, _, _, h3, _⟩ := S.own e
  rw [h1] at z
  cases z
  rw [h] at h3
  cases h3
theorem Sm.ownF (S : Sm P w K F0 H0 F H σ env) {p : Addr} {o : HO} (h : F p = some o) : ¬ Own σ env p := fun ⟨i, t, u, e, z⟩ => by
  obtain ⟨q, o, h1, _, h2, _⟩ := S.own e
  rw [h1] at z
  cases z
  rw [h] at h2
  cases h2
/-- an object that is nobody's slot is made or changed -/
theorem Sm.upd (S : Sm P w K F0 H0 F H σ env) {p : Addr} (o : HO) (hF : F p = none) (h0 : H0 p = none) (hp : ¬ Own σ env p) : Sm P w K F0 H0 F (L2.upd H p o) σ env :=
  ⟨S.e0, ⟨S.g.f, fun a u q => by
    rw [upd_ne (ne_of_none q h0)]
    exact S.g.h a u q, fun a u q => by
    rw [upd_ne (ne_of_none q hF)]
    exact S.g.s a u q, S.g.n⟩, S.len, fun i s e => by
    obtain ⟨v, h1, h2⟩ := S.sl i s e
    refine ⟨v, h1, ?_⟩
    cases s with
    | x => trivial
    | u => exact h2
    | d d => exact h2
    | ex a od e => exact h2
    | ow t u =>
      obtain ⟨q, z, ev, g0, g1, g2, g3, g4⟩ := h2
      have ne : q ≠ p := fun z => hp ⟨i, t, u, e, by rw [h1, ev, z]⟩
      exact ⟨q, z, ev, g0, g1, g2, by rw [upd_ne ne]; exact g3, g4⟩, S.df⟩
/-- an own thing is changed -/
theorem Sm.mut (S : Sm P w K F0 H0 F H σ env) {i : Nat} {t : Option Addr} {u u' : Ow} {p : Addr} {o : HO} (hi : env[i]? = some (.ow t u)) (hp : σ[i]? = some (some (.ref p))) (r : OwOk P w K F p u' o) :
    Sm P w K F0 H0 F (L2.upd H p o) σ (env.set i (.ow t u')) := by
  obtain ⟨q, z, h1, g0, g1, g2, g3, g4⟩ := S.own hi
  rw [hp] at h1
  cases h1
  refine ⟨S.e0, ⟨S.g.f, fun a u z => ?_, fun a u z => ?_, S.g.n⟩, by simp [S.len], fun j s e => ?_, fun a b t1 t2 u1 u2 q ne e1 e2 h => ?_⟩
  · rw [upd_ne (ne_of_none z g2)]
    exact S.g.h a u z
  · rw [upd_ne (ne_of_none z g1)]
    exact S.g.s a u z
  · rcases get_set e with ⟨rfl, rfl, l⟩ | ⟨ne, e⟩
    · exact ⟨_, hp, p, o, rfl, g0, g1, g2, upd_same, r⟩
    · obtain ⟨v, k1, k2⟩ := S.sl j s e
      refine ⟨v, k1, ?_⟩
      cases s with
      | x => trivial
      | u => exact k2
      | d d => exact k2
      | ex a od e => exact k2
      | ow t2 u2 =>
        obtain ⟨q, z, eq, f0, f1, f2, f3, f4⟩ := k2
        have nq : q ≠ p := fun z => S.df i j t t2 u u2 p ne hi e hp (by rw [k1, eq, z])
        exact ⟨q, z, eq, f0, f1, f2, by rw [upd_ne nq]; exact f3, f4⟩
  · rcases get_set e1 with ⟨ra, z1, _⟩ | ⟨n1, e1⟩
    · rcases get_set e2 with ⟨rb, z2, _⟩ | ⟨n2, e2⟩
      · exact absurd (ra.symm.trans rb) ne
      · subst ra
        exact S.df i b t t2 u u2 q ne hi e2 h
    · rcases get_set e2 with ⟨rb, z2, _⟩ | ⟨n2, e2⟩
      · subst rb
        exact S.df a i t1 t u1 u q ne e1 hi h
      · exact S.df a b t1 t2 u1 u2 q ne e1 e2 h
theorem Wo.mut (S : Sm P w K F0 H0 F H σ env) {i : Nat} {t : Option Addr} {u : Ow} {p : Addr} {o : HO} (hi : env[i]? = some (.ow t u)) (hp : σ[i]? = some (some (.ref p))) : Wo σ env F H F (L2.upd H p o) := by
  obtain ⟨q, z, h1, g0, g1, g2, g3, g4⟩ := S.own hi
  rw [hp] at h1
  cases h1
  refine ⟨Ex.refl F, fun a v h n => ?_, fun a v h => ?_, fun _ _ _ h => h, fun a h => ?_⟩
  · have ne : a ≠ p := fun z => n ⟨i, t, u, hi, by rw [hp, z]⟩
    rw [upd_ne ne]
    exact h
  · rw [upd_ne (ne_of_none h g1)]
    exact S.sub a v h
  · by_cases z : a = p
    · subst z
      rw [upd_same] at h
      cases h
    · rw [upd_ne z] at h
      exact h
/-- slot i gets data -/
theorem Sm.setD (S : Sm P w K F0 H0 F H σ env) {i : Nat} {d : Dt} {v : V} (r : Rp K F d v) : Sm P w K F0 H0 F H (σ.set i (some v)) (env.set i (.d d)) :=
  ⟨S.e0, S.g, by simp [S.len], fun j s e => by
    rcases get_set e with ⟨rfl, rfl, l⟩ | ⟨ne, e⟩
    · exact ⟨some v, set_same (by rw [S.len]; exact l), v, rfl, r⟩
    · rw [set_ne ne]
      exact S.sl j s e, fun a b t1 t2 u1 u2 p ne e1 e2 h => by
    rcases get_set e1 with ⟨_, z, _⟩ | ⟨n1, e1⟩
    · cases z
    · rcases get_set e2 with ⟨_, z, _⟩ | ⟨n2, e2⟩
      · cases z
      · rw [set_ne n1] at h
        rw [set_ne n2]
        exact S.df a b t1 t2 u1 u2 p ne e1 e2 h⟩
theorem Sm.setU (S : Sm P w K F0 H0 F H σ env) (i : Nat) : Sm P w K F0 H0 F H (σ.set i none) (env.set i .u) :=
  ⟨S.e0, S.g, by simp [S.len], fun j s e => by
    rcases get_set e with ⟨rfl, rfl, l⟩ | ⟨ne, e⟩
    · exact ⟨none, set_same (by rw [S.len]; exact l), rfl⟩
    · rw [set_ne ne]
      exact S.sl j s e, fun a b t1 t2 u1 u2 p ne e1 e2 h => by
    rcases get_set e1 with ⟨_, z, _⟩ | ⟨n1, e1⟩
    · cases z
    · rcases get_set e2 with ⟨_, z, _⟩ | ⟨n2, e2⟩
      · cases z
      · rw [set_ne n1] at h
        rw [set_ne n2]
        exact S.df a b t1 t2 u1 u2 p ne e1 e2 h⟩
/-- slot i gets a new thing of its own -/
theorem Sm.setO (S : Sm P w K F0 H0 F H σ env) {i : Nat} {u : Ow} {p : Addr} {o : HO} (hF : F p = none) (h0 : H0 p = none) (hp : H p = some o) (r : OwOk P w K F p u o) (hn : ¬ Own σ env p) :
    Sm P w K F0 H0 F H (σ.set i (some (.ref p))) (env.set i (.ow none u)) :=
  ⟨S.e0, S.g, by simp [S.len], fun j s e => by
    rcases get_set e with ⟨rfl, rfl, l⟩ | ⟨ne, e⟩
    · exact ⟨some (.ref p), set_same (by rw [S.len]; exact l), p, o, rfl, (fun _ z => nomatch z), hF, h0, hp, r⟩
    · rw [set_ne ne]
      exact S.sl j s e, fun a b t1 t2 u1 u2 q ne e1 e2 h => by
    rcases get_set e1 with ⟨ra, z1, _⟩ | ⟨n1, e1⟩
    · rcases get_set e2 with ⟨rb, z2, _⟩ | ⟨n2, e2⟩
      · exact absurd (ra.symm.trans rb) ne
      · subst ra
        rw [set_ne n2]
        have l : i < σ.length := by
          rw [S.len]
          exact (by assumption)
        rw [set_same l] at h
        cases h
        exact fun z => hn ⟨b, t2, u2, e2, z⟩
    · rcases get_set e2 with ⟨rb, z2, l⟩ | ⟨n2, e2⟩
      · subst rb
        rw [set_ne n1] at h
        intro q2
        rw [set_same (by rw [S.len]; exact l)] at q2
        cases q2
        exact hn ⟨a, t1, u1, e1, h⟩
      · rw [set_ne n1] at h
        rw [set_ne n2]
        exact S.df a b t1 t2 u1 u2 q ne e1 e2 h⟩
/-- what an own thing is as data -/
def Ow.dt : Ow → Option Dt
  | .lst ds => some (.lst ds)
  | .dic ks ds => some (.dic ks ds)
  | .dit ks ds => some (.dit ks ds)
  | .ins C fs ds => some (.obj C fs ds)
  | .set _ _ => none
theorem OwOk.rp {a : Addr} {u : Ow} {o : HO} {d : Dt} (h : OwOk P w K F a u o) (e : u.dt = some d) (hF : F a = some o) : Rp K F d (.ref a) := by
  cases u <;> cases e
  · obtain ⟨vs, rfl, r⟩ := h
    exact ⟨a, vs, rfl, SqL.of hF, r⟩
  · obtain ⟨vs, rfl, l, r⟩ := h
    exact ⟨a, vs, rfl, hF, l, r⟩
  · obtain ⟨vs, rfl, l, r⟩ := h
    exact ⟨a, vs, rfl, hF, l, r⟩
  · obtain ⟨dx, vs, rfl, l, r⟩ := h
    exact ⟨a, dx, vs, rfl, hF, l, r⟩
/-- the own thing in slot i becomes data -/
theorem Sm.freeze (S : Sm P w K F0 H0 F H σ env) {i : Nat} {t : Option Addr} {u : Ow} {d : Dt} (h : env[i]? = some (.ow t u)) (hd : u.dt = some d) :
    ∃ p o, σ[i]? = some (some (.ref p)) ∧ F p = none ∧ H p = some o ∧ OwOk P w K F p u o ∧ Rp K (L2.upd F p o) d (.ref p) ∧ Sm P w K F0 H0 (L2.upd F p o) H σ (env.set i (.d d)) := by
  obtain ⟨p, o, h1, g0, g1, g2, g3, g4⟩ := S.own h
  have ex : Ex F (L2.upd F p o) := Ex.new g1
  have rp : Rp K (L2.upd F p o) d (.ref p) := (g4.mono ex).rp hd upd_same
  refine ⟨p, o, h1, g1, g3, g4, rp, S.e0, S.g.give S.e0 g2 g3, by simp [S.len], fun j s e => ?_, fun a b t1 t2 u1 u2 q ne e1 e2 h => ?_⟩
  · rcases get_set e with ⟨rfl, rfl, l⟩ | ⟨ne, e⟩
    · exact ⟨_, h1, .ref p, rfl, rp⟩
    · obtain ⟨v, k1, k2⟩ := S.sl j s e
      refine ⟨v, k1, ?_⟩
      cases s with
      | x => trivial
      | u => exact k2
      | d d =>
        obtain ⟨y, e, r⟩ := k2
        exact ⟨y, e, r.mono ex⟩
      | ex a od e => exact ⟨k2.1, k2.2.mono ex⟩
      | ow t2 u2 =>
        obtain ⟨q, z, eq, f0, f1, f2, f3, f4⟩ := k2
        have nq : q ≠ p := fun z => S.df i j t t2 u u2 p ne h e h1 (by rw [k1, eq, z])
        exact ⟨q, z, eq, f0, by rw [upd_ne nq]; exact f1, f2, f3, f4.mono ex⟩
  · rcases get_set e1 with ⟨_, z, _⟩ | ⟨n1, e1⟩
    · cases z
    · rcases get_set e2 with ⟨_, z, _⟩ | ⟨n2, e2⟩
      · cases z
      · exact S.df a b t1 t2 u1 u2 q ne e1 e2 h
/-- forgetting -/
def Le (a b : En) : Prop := a.length = b.length ∧ ∀ (i : Nat) (s : Sl), b[i]? = some s → s = .x ∨ a[i]? = some s
theorem Le.refl (a : En) : Le a a := ⟨rfl, fun _ _ h => .inr h⟩
theorem Le.nil : Le [] [] := Le.refl _
theorem Le.x {a b : En} {s : Sl} (h : Le a b) : Le (s :: a) (.x :: b) := ⟨by simp [h.1], fun i t e => by
  cases i with
  | zero => exact .inl (by simpa using e.symm)
  | succ i => exact h.2 i t (by simpa using e)⟩
theorem Le.s {a b : En} {s : Sl} (h : Le a b) : Le (s :: a) (s :: b) := ⟨by simp [h.1], fun i t e => by
  cases i with
  | zero => exact .inr (by simpa using e)
  | succ i => exact h.2 i t (by simpa using e)⟩
theorem Sm.le (S : Sm P w K F0 H0 F H σ env) (l : Le env env1) : Sm P w K F0 H0 F H σ env1 :=
  ⟨S.e0, S.g, S.len.trans l.1, fun i s e => by
    rcases l.2 i s e with rfl | z
    · have hi : i < σ.length := by
        rw [S.len, l.1]
        exact (List.getElem?_eq_some_iff.mp e).1
      exact ⟨σ[i], by simp [hi], trivial⟩
    · exact S.sl i s z, fun a b t1 t2 u1 u2 p ne e1 e2 h => by
    rcases l.2 a _ e1 with z | e1
    · cases z
    · rcases l.2 b _ e2 with z | e2
      · cases z
      · exact S.df a b t1 t2 u1 u2 p ne e1 e2 h⟩
end
end Qw

set_option maxHeartbeats 1000000
/-! ### judgements of expressions -/
namespace Qw
open PySem PySem.Spec PyProof.Rows L2 Evl
open Pw (Dt Rp RpL Wk none_sub get_set set_same set_ne R2d R1d RLd RLn Kq KqL truD isEmpty_rp flatD fl py pyL)
section
variable (P : Program) (w : World) (K : PySem.W.Frag)
/-- te gives d, and leaves the slots as env' says -/
def Ee (te : TE) (env : En) (d : Dt) (env' : En) : Prop := Sh env env' ∧ ∀ F0 H0 F H σ, Sm P w K F0 H0 F H σ env → ∀ Q : VK, (∀ v F' H', Wo σ env F H F' H' → Sm P w K F0 H0 F' H' σ env' → Rp K F' d v → Q v H') → te σ H Q
def Te (tt : TT) (env : En) (b : Bool) (env' : En) : Prop := Sh env env' ∧ ∀ F0 H0 F H σ, Sm P w K F0 H0 F H σ env → ∀ Q : Bool → Hp → Prop, (∀ F' H', Wo σ env F H F' H' → Sm P w K F0 H0 F' H' σ env' → Q b H') → tt σ H Q
def EeA (ta : TA) (env : En) (ds : List Dt) (env' : En) : Prop := Sh env env' ∧ ∀ F0 H0 F H σ, Sm P w K F0 H0 F H σ env → ∀ Q : List V → Hp → Prop, (∀ vs F' H', Wo σ env F H F' H' → Sm P w K F0 H0 F' H' σ env' → RpL K F' ds vs → Q vs H') → ta σ H Q
/-- a new thing of one's own -/
def EnO (te : TE) (env : En) (u : Ow) (env' : En) : Prop := Sh env env' ∧ ∀ F0 H0 F H σ, Sm P w K F0 H0 F H σ env → ∀ Q : VK, (∀ p o F' H', Wo σ env F H F' H' → Sm P w K F0 H0 F' H' σ env' → H p = none → F' p = none → H' p = some o → OwOk P w K F' p u o → Q (.ref p) H') → te σ H Q
abbrev EnL (te : TE) (env : En) (ds : List Dt) (env' : En) : Prop := EnO P w K te env (.lst ds) env'
def Oo (to : TO) (env : En) (o : Option Int) (env' : En) : Prop := Sh env env' ∧ ∀ F0 H0 F H σ, Sm P w K F0 H0 F H σ env → ∀ Q : Option Int → Hp → Prop, (∀ F' H', Wo σ env F H F' H' → Sm P w K F0 H0 F' H' σ env' → Q o H') → to σ H Q
/-- an operation that gives a new thing -/
def RLo (r : List V → Hp → VK → Prop) (ds : List Dt) (u : Ow) : Prop := ∀ F H vs, Ex F H → RpL K F ds vs → ∀ Q : VK, (∀ p o F' H', Wk F H F' H' → H p = none → F' p = none → H' p = some o → OwOk P w K F' p u o → Q (.ref p) H') → r vs H Q
end
section
variable {P : Program} {w : World} {K : PySem.W.Frag} {env env1 env2 env3 env4 : En} {ta tb te tc : TE} {t u : TT} {d e z : Dt} {r r' : R2}
theorem Ee.nw (h : ∀ F0 H0 F H σ, Sm P w K F0 H0 F H σ env → ∀ Q : VK, Kq K F H d Q → te σ H Q) : Ee P w K te env d env := ⟨Sh.refl, fun F0 H0 F H σ S Q q => h F0 H0 F H σ S Q fun v F' H' k r => q v F' H' (.of k) (S.wk k) r⟩
theorem ee_var {i : Nat} (h : env[i]? = some (.d d) := by rfl) : Ee P w K (tVar i) env d env := .nw fun F0 H0 F H σ S Q q => by
  obtain ⟨v, h1, y, rfl, r⟩ := S.sl i _ h
  exact ⟨y, h1, q y F H (Wk.refl S.sub) r⟩
theorem ee_c {v : V} (h : ∀ F, Rp K F d v) : Ee P w K (tC v) env d env := .nw fun F0 H0 F H σ S Q q => q v F H (Wk.refl S.sub) (h F)
theorem ee_int {i : Int} : Ee P w K (tC (.int i)) env (.int i) env := ee_c fun _ => rfl
theorem ee_bl {b : Bool} : Ee P w K (tC (.bl b)) env (.bl b) env := ee_c fun _ => rfl
theorem ee_str {x : Str} : Ee P w K (tC (.str x)) env (.str x) env := ee_c fun _ => rfl
theorem ee_non : Ee P w K (tC .non) env .non env := ee_c fun _ => rfl
theorem ee_ty {n : String} : Ee P w K (tC (.ty n)) env (.ty n) env := ee_c fun _ => rfl
theorem ee_adr {a : Addr} : Ee P w K (tC (.ref a)) env (.adr a) env := ee_c fun _ => rfl
theorem ee_is (h : Ee P w K te env d env1) (e' : d = e) : Ee P w K te env e env1 := e' ▸ h
theorem te_is {b c : Bool} (h : Te P w K t env b env1) (e' : b = c) : Te P w K t env c env1 := e' ▸ h
theorem ee_op (ha : Ee P w K ta env d env1) (hb : Ee P w K tb env1 e env2) (hr : R2d K r d e z) : Ee P w K (tOp r ta tb) env z env2 := ⟨ha.1.trans hb.1, fun F0 H0 F H σ S Q q =>
  ha.2 F0 H0 F H σ S _ fun x F1 H1 w1 S1 r1 => hb.2 F0 H0 F1 H1 σ S1 _ fun y F2 H2 w2 S2 r2 => hr F2 H2 x y S2.sub (r1.mono w2.f) r2 Q fun v F3 H3 w3 r3 => q v F3 H3 (w1.trans ha.1 (w2.trans hb.1 (.of w3))) (S2.wk w3) r3⟩
theorem ee_un {r : V → Hp → VK → Prop} (ha : Ee P w K ta env d env1) (hr : R1d K r d z) : Ee P w K (tUn r ta) env z env1 := ⟨ha.1, fun F0 H0 F H σ S Q q =>
  ha.2 F0 H0 F H σ S _ fun x F1 H1 w1 S1 r1 => hr F1 H1 x S1.sub r1 Q fun v F3 H3 w3 r3 => q v F3 H3 (w1.trans ha.1 (.of w3)) (S1.wk w3) r3⟩
theorem ea_nil : EeA P w K tNil env [] env := ⟨Sh.refl, fun F0 H0 F H σ S Q q => q [] F H (.refl S.sub) S rfl⟩
theorem ea_cons {tr : TA} {ds : List Dt} (h : Ee P w K te env d env1) (hr : EeA P w K tr env1 ds env2) : EeA P w K (tCons te tr) env (d :: ds) env2 := ⟨h.1.trans hr.1, fun F0 H0 F H σ S Q q =>
  h.2 F0 H0 F H σ S _ fun x F1 H1 w1 S1 r1 => hr.2 F0 H0 F1 H1 σ S1 _ fun vs F2 H2 w2 S2 r2 => q (x :: vs) F2 H2 (w1.trans h.1 w2) S2 ⟨x, vs, rfl, r1.mono w2.f, r2⟩⟩
/-- *xs in a display or a call -/
theorem ea_starL {tr : TA} {ds es : List Dt} (h : Ee P w K te env (.lst ds) env1) (hr : EeA P w K tr env1 es env2) : EeA P w K (StX.tStar K te tr) env (ds ++ es) env2 := ⟨h.1.trans hr.1, fun F0 H0 F H σ S Q q =>
  h.2 F0 H0 F H σ S _ fun x F1 H1 w1 S1 ⟨a, vs, e, s, r1⟩ => ⟨a, vs, e, .inr (ex_l S1.sub s), hr.2 F0 H0 F1 H1 σ S1 _ fun us F2 H2 w2 S2 r2 => q (vs ++ us) F2 H2 (w1.trans h.1 w2) S2 (RpL.append (r1.mono w2.f) r2)⟩⟩
theorem ea_starT {tr : TA} {ds es : List Dt} (h : Ee P w K te env (.tup ds) env1) (hr : EeA P w K tr env1 es env2) : EeA P w K (StX.tStar K te tr) env (ds ++ es) env2 := ⟨h.1.trans hr.1, fun F0 H0 F H σ S Q q =>
  h.2 F0 H0 F H σ S _ fun x F1 H1 w1 S1 ⟨a, vs, e, s, r1⟩ => ⟨a, vs, e, .inl (ex_t S1.sub s), hr.2 F0 H0 F1 H1 σ S1 _ fun us F2 H2 w2 S2 r2 => q (vs ++ us) F2 H2 (w1.trans h.1 w2) S2 (RpL.append (r1.mono w2.f) r2)⟩⟩
theorem ee_cb {r : List V → Hp → VK → Prop} {ta : TA} {ds : List Dt} (h : EeA P w K ta env ds env1) (hr : RLd K r ds z) : Ee P w K (tCB r ta) env z env1 := ⟨h.1, fun F0 H0 F H σ S Q q =>
  h.2 F0 H0 F H σ S _ fun vs F1 H1 w1 S1 r1 => hr F1 H1 vs S1.sub r1 Q fun v F3 H3 w3 r3 => q v F3 H3 (w1.trans h.1 (.of w3)) (S1.wk w3) r3⟩
theorem eo_cb {r : List V → Hp → VK → Prop} {ta : TA} {ds : List Dt} {o : Ow} (h : EeA P w K ta env ds env1) (hr : RLo P w K r ds o) : EnO P w K (tCB r ta) env o env1 := ⟨h.1, fun F0 H0 F H σ S Q q =>
  h.2 F0 H0 F H σ S _ fun vs F1 H1 w1 S1 r1 => hr F1 H1 vs S1.sub r1 Q fun p ho F3 H3 w3 n1 n2 h3 r3 => q p ho F3 H3 (w1.trans h.1 (.of w3)) (S1.wk w3) (w1.b p n1) n2 h3 r3⟩
theorem rlo_of {r : List V → Hp → VK → Prop} {ds es : List Dt} (h : RLn K r ds es) : RLo P w K r ds (.lst es) := fun F H vs s rp Q q => h F H vs s rp Q fun p us F' H' k n1 n2 e r => q p _ F' H' k n1 n2 e ⟨us, rfl, r⟩
theorem en_cb {r : List V → Hp → VK → Prop} {ta : TA} {ds es : List Dt} (h : EeA P w K ta env ds env1) (hr : RLn K r ds es) : EnL P w K (tCB r ta) env es env1 := eo_cb h (rlo_of hr)
/-- a new thing as data -/
theorem Sm.give {F0 H0 F H : Hp} {σ : L2.St} (S : Sm P w K F0 H0 F H σ env) {p : Addr} {o : HO} (n1 : F p = none) (n2 : H0 p = none) (h : H p = some o) (no : ¬ Own σ env p) : Sm P w K F0 H0 (L2.upd F p o) H σ env :=
  ⟨S.e0, S.g.give S.e0 n2 h, S.len, fun i s e => by
    obtain ⟨v, k1, k2⟩ := S.sl i s e
    refine ⟨v, k1, ?_⟩
    cases s with
    | x => trivial
    | u => exact k2
    | d d =>
      obtain ⟨y, e, r⟩ := k2
      exact ⟨y, e, r.mono (Ex.new n1)⟩
    | ex a od e => exact ⟨k2.1, k2.2.mono (Ex.new n1)⟩
    | ow t2 u2 =>
      obtain ⟨q, z, eq, f0, f1, f2, f3, f4⟩ := k2
      have nq : q ≠ p := fun z => no ⟨i, t2, u2, e, by rw [k1, eq, z]⟩
      exact ⟨q, z, eq, f0, by rw [upd_ne nq]; exact f1, f2, f3, f4.mono (Ex.new n1)⟩, S.df⟩
theorem Wo.give {F H F' H' : Hp} {σ : L2.St} (k : Wo σ env F H F' H') {p : Addr} {o : HO} (n0 : H p = none) (n1 : F' p = none) (h : H' p = some o) : Wo σ env F H (L2.upd F' p o) H' :=
  ⟨fun a v e => by
    rw [upd_ne (ne_of_none (k.f a v e) n1)]
    exact k.f a v e, k.h, fun a v e => by
    by_cases z : a = p
    · subst z
      rw [upd_same] at e
      rw [h, ← e]
    · rw [upd_ne z] at e
      exact k.s a v e, fun a v e n => by
    rw [upd_ne (ne_of_none e n0)]
    exact k.n a v e n, k.b⟩
theorem eo_dt {o : Ow} (h : EnO P w K te env o env1) (hd : o.dt = some d := by rfl) : Ee P w K te env d env1 := ⟨h.1, fun F0 H0 F H σ S Q q =>
  h.2 F0 H0 F H σ S Q fun p ho F1 H1 k S1 n1 n2 h1 r1 => q (.ref p) (L2.upd F1 p ho) H1 (k.give n1 n2 h1) (S1.give n2 (none_sub S.g.h n1) h1 fun z => S.ownNew n1 (h.1.own z)) ((r1.mono (Ex.new n2)).rp hd upd_same)⟩
theorem ee_new {ds : List Dt} (h : EnL P w K te env ds env1) : Ee P w K te env (.lst ds) env1 := eo_dt h
theorem ee_tup {ta : TA} {ds : List Dt} (h : EeA P w K ta env ds env1) (hl : ds.length ≤ 100000 := by exact Nat.le_of_ble_eq_true rfl) : Ee P w K (tTup ta) env (.tup ds) env1 := ⟨h.1, fun F0 H0 F H σ S Q q =>
  h.2 F0 H0 F H σ S _ fun vs F1 H1 w1 S1 r1 => ⟨sz_of (by rw [← r1.length]; exact hl), fun p hp => q (.ref p) (L2.upd F1 p (.tup vs)) (L2.upd H1 p (.tup vs)) (w1.trans h.1 (.of (Wk.new S1.sub _ hp))) (S1.wk (Wk.new S1.sub _ hp)) ⟨p, vs, rfl, SqT.of upd_same, r1.mono (Ex.new (none_sub S1.sub hp))⟩⟩⟩
theorem en_lst {ta : TA} {ds : List Dt} (h : EeA P w K ta env ds env1) (hl : ds.length ≤ 100000 := by exact Nat.le_of_ble_eq_true rfl) : EnL P w K (tLst ta) env ds env1 := ⟨h.1, fun F0 H0 F H σ S Q q =>
  h.2 F0 H0 F H σ S _ fun vs F1 H1 w1 S1 r1 => ⟨sz_of (by rw [← r1.length]; exact hl), fun p hp => q p _ F1 (L2.upd H1 p (.lst vs)) (w1.trans h.1 (.of (Wk.own S1.sub _ hp))) (S1.wk (Wk.own S1.sub _ hp)) (w1.b p hp) (none_sub S1.sub hp) upd_same ⟨vs, rfl, r1⟩⟩⟩
theorem ee_lst {ta : TA} {ds : List Dt} (h : EeA P w K ta env ds env1) (hl : ds.length ≤ 100000 := by exact Nat.le_of_ble_eq_true rfl) : Ee P w K (tLst ta) env (.lst ds) env1 := ee_new (en_lst h hl)
theorem ee_chain {a b : Bool} {f : Dt} (ha : Ee P w K ta env d env1) (hb : Ee P w K tb env1 e env2) (hr : R2d K r d e (.bl a)) (hc : a = true → Ee P w K tc env2 f env2) (hr' : a = true → R2d K r' e f (.bl b)) : Ee P w K (tChain r r' ta tb tc) env (.bl (a && b)) env2 := ⟨ha.1.trans hb.1, fun F0 H0 F H σ S Q q =>
  ha.2 F0 H0 F H σ S _ fun x F1 H1 w1 S1 r1 => hb.2 F0 H0 F1 H1 σ S1 _ fun y F2 H2 w2 S2 r2 => hr F2 H2 x y S2.sub (r1.mono w2.f) r2 _ fun v F3 H3 w3 r3 => by
    refine ⟨a, r3, ?_⟩
    have w123 := w1.trans ha.1 (w2.trans hb.1 (.of (σ := σ) (env := env2) w3))
    cases a with
    | true =>
      show tc σ H3 _
      exact (hc rfl).2 F0 H0 F3 H3 σ (S2.wk w3) _ fun c F4 H4 w4 S4 r4 => hr' rfl F4 H4 y c S4.sub (r2.mono (w3.f.trans w4.f)) r4 Q fun v F5 H5 w5 r5 => q v F5 H5 (w123.trans (ha.1.trans hb.1) (w4.trans (hc rfl).1 (.of w5))) (S4.wk w5) r5
    | false =>
      show Q (.bl false) H3
      exact q _ F3 H3 w123 (S2.wk w3) rfl⟩
/-! ### tests -/
theorem te_test {b : Bool} (h : Ee P w K te env (.bl b) env1) : Te P w K (tTest te) env b env1 := ⟨h.1, fun F0 H0 F H σ S Q q => h.2 F0 H0 F H σ S _ fun v F1 H1 w1 S1 r1 => ⟨b, r1, q F1 H1 w1 S1⟩⟩
theorem te_B {b : Bool} (h : Ee P w K te env (.bl b) env1) : Te P w K (tB te) env b env1 := ⟨h.1, fun F0 H0 F H σ S Q q => h.2 F0 H0 F H σ S _ fun v F1 H1 w1 S1 r1 => ⟨b, r1, q F1 H1 w1 S1⟩⟩
theorem te_and {a b : Bool} (h1 : Te P w K t env a env1) (h2 : a = true → Te P w K u env1 b env1) : Te P w K (tAnd t u) env (a && b) env1 := ⟨h1.1, fun F0 H0 F H σ S Q q => h1.2 F0 H0 F H σ S _ fun F1 H1 w1 S1 => by
  cases a with
  | true =>
    show u σ H1 Q
    exact (h2 rfl).2 F0 H0 F1 H1 σ S1 Q fun F2 H2 w2 S2 => q F2 H2 (w1.trans h1.1 w2) S2
  | false =>
    show Q false H1
    exact q F1 H1 w1 S1⟩
theorem te_or {a b : Bool} (h1 : Te P w K t env a env1) (h2 : a = false → Te P w K u env1 b env1) : Te P w K (tOr t u) env (a || b) env1 := ⟨h1.1, fun F0 H0 F H σ S Q q => h1.2 F0 H0 F H σ S _ fun F1 H1 w1 S1 => by
  cases a with
  | false =>
    show u σ H1 Q
    exact (h2 rfl).2 F0 H0 F1 H1 σ S1 Q fun F2 H2 w2 S2 => q F2 H2 (w1.trans h1.1 w2) S2
  | true =>
    show Q true H1
    exact q F1 H1 w1 S1⟩
/-- the second part asked, and it may change what is one's own -/
theorem te_andM {b : Bool} (h1 : Te P w K t env true env1) (h2 : Te P w K u env1 b env2) : Te P w K (tAnd t u) env b env2 := ⟨h1.1.trans h2.1, fun F0 H0 F H σ S Q q => h1.2 F0 H0 F H σ S _ fun F1 H1 w1 S1 => by
  show u σ H1 Q
  exact h2.2 F0 H0 F1 H1 σ S1 Q fun F2 H2 w2 S2 => q F2 H2 (w1.trans h1.1 w2) S2⟩
theorem te_orM {b : Bool} (h1 : Te P w K t env false env1) (h2 : Te P w K u env1 b env2) : Te P w K (tOr t u) env b env2 := ⟨h1.1.trans h2.1, fun F0 H0 F H σ S Q q => h1.2 F0 H0 F H σ S _ fun F1 H1 w1 S1 => by
  show u σ H1 Q
  exact h2.2 F0 H0 F1 H1 σ S1 Q fun F2 H2 w2 S2 => q F2 H2 (w1.trans h1.1 w2) S2⟩
theorem te_not {a : Bool} (h : Te P w K t env a env1) : Te P w K (tNot t) env (!a) env1 := ⟨h.1, fun F0 H0 F H σ S Q q => h.2 F0 H0 F H σ S _ fun F1 H1 w1 S1 => q F1 H1 w1 S1⟩
theorem ee_and {a b : Bool} (h1 : Ee P w K ta env (.bl a) env1) (h2 : a = true → Ee P w K tb env1 (.bl b) env1) : Ee P w K (tAndV ta tb) env (.bl (a && b)) env1 := ⟨h1.1, fun F0 H0 F H σ S Q q => h1.2 F0 H0 F H σ S _ fun v F1 H1 w1 S1 r1 => ⟨a, r1, by
  cases a with
  | true =>
    show tb σ H1 Q
    exact (h2 rfl).2 F0 H0 F1 H1 σ S1 Q fun v F2 H2 w2 S2 r2 => q v F2 H2 (w1.trans h1.1 w2) S2 r2
  | false =>
    show Q (.bl false) H1
    exact q _ F1 H1 w1 S1 rfl⟩⟩
theorem ee_or {a b : Bool} (h1 : Ee P w K ta env (.bl a) env1) (h2 : a = false → Ee P w K tb env1 (.bl b) env1) : Ee P w K (tOrV ta tb) env (.bl (a || b)) env1 := ⟨h1.1, fun F0 H0 F H σ S Q q => h1.2 F0 H0 F H σ S _ fun v F1 H1 w1 S1 r1 => ⟨a, r1, by
  cases a with
  | false =>
    show tb σ H1 Q
    exact (h2 rfl).2 F0 H0 F1 H1 σ S1 Q fun v F2 H2 w2 S2 r2 => q v F2 H2 (w1.trans h1.1 w2) S2 r2
  | true =>
    show Q (.bl true) H1
    exact q _ F1 H1 w1 S1 rfl⟩⟩
theorem ee_not {a : Bool} (h1 : Ee P w K ta env (.bl a) env1) : Ee P w K (tNotV ta) env (.bl (!a)) env1 := ⟨h1.1, fun F0 H0 F H σ S Q q => h1.2 F0 H0 F H σ S _ fun v F1 H1 w1 S1 r1 => ⟨a, r1, q _ F1 H1 w1 S1 rfl⟩⟩
theorem ee_if {b : Bool} (h : Te P w K t env b env1) (h1 : b = true → Ee P w K ta env1 d env2) (h2 : b = false → Ee P w K tb env1 d env2) : Ee P w K (tIf t ta tb) env d env2 := ⟨h.1.trans (by
  cases b with
  | true => exact (h1 rfl).1
  | false => exact (h2 rfl).1), fun F0 H0 F H σ S Q q => h.2 F0 H0 F H σ S _ fun F1 H1 w1 S1 => by
  cases b with
  | true =>
    show ta σ H1 Q
    exact (h1 rfl).2 F0 H0 F1 H1 σ S1 Q fun v F2 H2 w2 S2 r2 => q v F2 H2 (w1.trans h.1 w2) S2 r2
  | false =>
    show tb σ H1 Q
    exact (h2 rfl).2 F0 H0 F1 H1 σ S1 Q fun v F2 H2 w2 S2 r2 => q v F2 H2 (w1.trans h.1 w2) S2 r2⟩
theorem te_tru {b : Bool} (h : Ee P w K te env d env1) (hb : truD d = some b) : Te P w K (fun σ H Q => te σ H fun x H' => ∃ k, TruV K x H' k ∧ Q k H') env b env1 := ⟨h.1, fun F0 H0 F H σ S Q q => h.2 F0 H0 F H σ S _ fun v F1 H1 w1 S1 r1 => by
  refine ⟨b, ?_, q F1 H1 w1 S1⟩
  cases d <;> simp only [truD, Option.some.injEq, reduceCtorEq] at hb
  · cases r1; exact hb.symm
  · cases r1; exact hb.symm
  · cases r1; exact hb.symm
  · obtain ⟨a, vs, rfl, h1, h2⟩ := r1
    exact .inr (.inl ⟨vs, ex_t S1.sub h1, by rw [← hb, isEmpty_rp h2]⟩)
  · obtain ⟨a, vs, rfl, h1, h2⟩ := r1
    exact .inl ⟨vs, ex_l S1.sub h1, by rw [← hb, isEmpty_rp h2]⟩⟩
theorem oo_none : Oo P w K tNoPart env none env := ⟨Sh.refl, fun F0 H0 F H σ S Q q => q F H (.refl S.sub) S⟩
theorem oo_some {i : Int} (h : Ee P w K te env (.int i) env1) : Oo P w K (tPart te) env (some i) env1 := ⟨h.1, fun F0 H0 F H σ S Q q => h.2 F0 H0 F H σ S _ fun v F1 H1 k S1 r => ⟨i, r, q F1 H1 k S1⟩⟩
end
end Qw

set_option maxHeartbeats 1000000
/-! ### expressions that change nothing -/
namespace Qw
open PySem PySem.Spec PyProof.Rows L2 Evl
open Pw (Dt Rp RpL Wk none_sub get_set set_same set_ne R2d R1d RLd RLn Kq KqL truD isEmpty_rp flatD fl py pyL)
section
variable (P : Program) (w : World) (K : PySem.W.Frag)
def Ep (te : TE) (env : En) (d : Dt) : Prop := ∀ F0 H0 F H σ, Sm P w K F0 H0 F H σ env → ∀ Q : VK, Kq K F H d Q → te σ H Q
def Tp (tt : TT) (env : En) (b : Bool) : Prop := ∀ F0 H0 F H σ, Sm P w K F0 H0 F H σ env → ∀ Q : Bool → Hp → Prop, (∀ F' H', Wk F H F' H' → Q b H') → tt σ H Q
def EpA (ta : TA) (env : En) (ds : List Dt) : Prop := ∀ F0 H0 F H σ, Sm P w K F0 H0 F H σ env → ∀ Q : List V → Hp → Prop, KqL K F H ds Q → ta σ H Q
def EpO (te : TE) (env : En) (u : Ow) : Prop := ∀ F0 H0 F H σ, Sm P w K F0 H0 F H σ env → ∀ Q : VK, (∀ p o F' H', Wk F H F' H' → H p = none → F' p = none → H' p = some o → OwOk P w K F' p u o → Q (.ref p) H') → te σ H Q
def EpN (te : TE) (env : En) (ds : List Dt) : Prop := ∀ F0 H0 F H σ, Sm P w K F0 H0 F H σ env → ∀ Q : VK, (∀ p vs F' H', Wk F H F' H' → H p = none → F' p = none → H' p = some (.lst vs) → RpL K F' ds vs → Q (.ref p) H') → te σ H Q
def Op (to : TO) (env : En) (o : Option Int) : Prop := ∀ F0 H0 F H σ, Sm P w K F0 H0 F H σ env → ∀ Q : Option Int → Hp → Prop, (∀ F' H', Wk F H F' H' → Q o H') → to σ H Q
end
section
variable {P : Program} {w : World} {K : PySem.W.Frag} {env env1 env2 : En} {ta tb te tc : TE} {tl th : TO} {t u : TT} {d e z : Dt} {r r' : R2}
theorem ep_var {i : Nat} (h : env[i]? = some (.d d) := by rfl) : Ep P w K (tVar i) env d := fun F0 H0 F H σ S Q q => by
  obtain ⟨v, h1, w, rfl, r⟩ := S.sl i _ h
  exact ⟨w, h1, q w F H (Wk.refl S.sub) r⟩
theorem ep_c {v : V} (h : ∀ F, Rp K F d v) : Ep P w K (tC v) env d := fun F0 H0 F H σ S Q q => q v F H (Wk.refl S.sub) (h F)
theorem ep_int {i : Int} : Ep P w K (tC (.int i)) env (.int i) := ep_c fun _ => rfl
theorem ep_bl {b : Bool} : Ep P w K (tC (.bl b)) env (.bl b) := ep_c fun _ => rfl
theorem ep_str {x : Str} : Ep P w K (tC (.str x)) env (.str x) := ep_c fun _ => rfl
theorem ep_non : Ep P w K (tC .non) env .non := ep_c fun _ => rfl
theorem ep_ty {n : String} : Ep P w K (tC (.ty n)) env (.ty n) := ep_c fun _ => rfl
theorem ep_adr {a : Addr} : Ep P w K (tC (.ref a)) env (.adr a) := ep_c fun _ => rfl
theorem ep_is (h : Ep P w K te env d) (e' : d = e) : Ep P w K te env e := by
  rw [← e']
  exact h
theorem tp_is {b c : Bool} (h : Tp P w K t env b) (e' : b = c) : Tp P w K t env c := by
  rw [← e']
  exact h
theorem ep_op (ha : Ep P w K ta env d) (hb : Ep P w K tb env e) (hr : R2d K r d e z) : Ep P w K (tOp r ta tb) env z := fun F0 H0 F H σ S Q q =>
  ha F0 H0 F H σ S _ fun x F1 H1 w1 r1 => hb F0 H0 F1 H1 σ (S.wk w1) _ fun y F2 H2 w2 r2 => hr F2 H2 x y w2.s (r1.mono w2.f) r2 Q fun v F3 H3 w3 r3 => q v F3 H3 ((w1.trans w2).trans w3) r3
theorem ep_un {r : V → Hp → VK → Prop} (ha : Ep P w K ta env d) (hr : R1d K r d z) : Ep P w K (tUn r ta) env z := fun F0 H0 F H σ S Q q =>
  ha F0 H0 F H σ S _ fun x F1 H1 w1 r1 => hr F1 H1 x w1.s r1 Q fun v F3 H3 w3 r3 => q v F3 H3 (w1.trans w3) r3
theorem ap_nil : EpA P w K tNil env [] := fun F0 H0 F H σ S Q q => q [] F H (Wk.refl S.sub) rfl
theorem ap_cons {tr : TA} {ds : List Dt} (h : Ep P w K te env d) (hr : EpA P w K tr env ds) : EpA P w K (tCons te tr) env (d :: ds) := fun F0 H0 F H σ S Q q =>
  h F0 H0 F H σ S _ fun x F1 H1 w1 r1 => hr F0 H0 F1 H1 σ (S.wk w1) _ fun vs F2 H2 w2 r2 => q (x :: vs) F2 H2 (w1.trans w2) ⟨x, vs, rfl, r1.mono w2.f, r2⟩
theorem ep_cb {r : List V → Hp → VK → Prop} {ta : TA} {ds : List Dt} (h : EpA P w K ta env ds) (hr : RLd K r ds z) : Ep P w K (tCB r ta) env z := fun F0 H0 F H σ S Q q =>
  h F0 H0 F H σ S _ fun vs F1 H1 w1 r1 => hr F1 H1 vs w1.s r1 Q fun v F3 H3 w3 r3 => q v F3 H3 (w1.trans w3) r3
theorem np_cb {r : List V → Hp → VK → Prop} {ta : TA} {ds es : List Dt} (h : EpA P w K ta env ds) (hr : RLn K r ds es) : EpN P w K (tCB r ta) env es := fun F0 H0 F H σ S Q q =>
  h F0 H0 F H σ S _ fun vs F1 H1 w1 r1 => hr F1 H1 vs w1.s r1 Q fun p us F3 H3 w3 n1 n2 h3 r3 => q p us F3 H3 (w1.trans w3) (fresh_back w1.h n1) n2 h3 r3
/-- a new list as data -/
theorem ep_new {ds : List Dt} (h : EpN P w K te env ds) : Ep P w K te env (.lst ds) := fun F0 H0 F H σ S Q q =>
  h F0 H0 F H σ S Q fun p vs F1 H1 w1 n1 n2 h1 r1 => q (.ref p) (L2.upd F1 p (.lst vs)) H1 (w1.give S.sub n1 h1) ⟨p, vs, rfl, SqL.of upd_same, r1.mono (Ex.new n2)⟩
theorem ep_tup {ta : TA} {ds : List Dt} (h : EpA P w K ta env ds) (hl : ds.length ≤ 100000 := by exact Nat.le_of_ble_eq_true rfl) : Ep P w K (tTup ta) env (.tup ds) := fun F0 H0 F H σ S Q q =>
  h F0 H0 F H σ S _ fun vs F1 H1 w1 r1 => ⟨sz_of (by rw [← r1.length]; exact hl), fun p hp => q (.ref p) (L2.upd F1 p (.tup vs)) (L2.upd H1 p (.tup vs)) (w1.trans (Wk.new w1.s _ hp)) ⟨p, vs, rfl, SqT.of upd_same, r1.mono (Ex.new (none_sub w1.s hp))⟩⟩
theorem np_lst {ta : TA} {ds : List Dt} (h : EpA P w K ta env ds) (hl : ds.length ≤ 100000 := by exact Nat.le_of_ble_eq_true rfl) : EpN P w K (tLst ta) env ds := fun F0 H0 F H σ S Q q =>
  h F0 H0 F H σ S _ fun vs F1 H1 w1 r1 => ⟨sz_of (by rw [← r1.length]; exact hl), fun p hp => q p vs F1 (L2.upd H1 p (.lst vs)) (w1.trans (Wk.own w1.s _ hp)) (fresh_back w1.h hp) (none_sub w1.s hp) upd_same r1⟩
theorem ep_lst {ta : TA} {ds : List Dt} (h : EpA P w K ta env ds) (hl : ds.length ≤ 100000 := by exact Nat.le_of_ble_eq_true rfl) : Ep P w K (tLst ta) env (.lst ds) := ep_new (np_lst h hl)
theorem ep_chain {a b : Bool} {f : Dt} (ha : Ep P w K ta env d) (hb : Ep P w K tb env e) (hr : R2d K r d e (.bl a)) (hc : a = true → Ep P w K tc env f) (hr' : a = true → R2d K r' e f (.bl b)) : Ep P w K (tChain r r' ta tb tc) env (.bl (a && b)) := fun F0 H0 F H σ S Q q =>
  ha F0 H0 F H σ S _ fun x F1 H1 w1 r1 => hb F0 H0 F1 H1 σ (S.wk w1) _ fun y F2 H2 w2 r2 => hr F2 H2 x y w2.s (r1.mono w2.f) r2 _ fun v F3 H3 w3 r3 => by
    refine ⟨a, r3, ?_⟩
    cases a with
    | true =>
      show tc σ H3 _
      exact hc rfl F0 H0 F3 H3 σ (((S.wk w1).wk w2).wk w3) _ fun c F4 H4 w4 r4 => hr' rfl F4 H4 y c w4.s (r2.mono (w3.f.trans w4.f)) r4 Q fun v F5 H5 w5 r5 => q v F5 H5 (((((w1.trans w2).trans w3)).trans w4).trans w5) r5
    | false =>
      show Q (.bl false) H3
      exact q _ F3 H3 ((w1.trans w2).trans w3) rfl

/-! ### tests -/
theorem tp_test {b : Bool} (h : Ep P w K te env (.bl b)) : Tp P w K (tTest te) env b := fun F0 H0 F H σ S Q q => h F0 H0 F H σ S _ fun v F1 H1 w1 r1 => ⟨b, r1, q F1 H1 w1⟩
theorem tp_B {b : Bool} (h : Ep P w K te env (.bl b)) : Tp P w K (tB te) env b := fun F0 H0 F H σ S Q q => h F0 H0 F H σ S _ fun v F1 H1 w1 r1 => ⟨b, r1, q F1 H1 w1⟩
theorem tp_and {a b : Bool} (h1 : Tp P w K t env a) (h2 : a = true → Tp P w K u env b) : Tp P w K (tAnd t u) env (a && b) := fun F0 H0 F H σ S Q q => h1 F0 H0 F H σ S _ fun F1 H1 w1 => by
  cases a with
  | true =>
    show u σ H1 Q
    exact h2 rfl F0 H0 F1 H1 σ (S.wk w1) Q fun F2 H2 w2 => q F2 H2 (w1.trans w2)
  | false =>
    show Q false H1
    exact q F1 H1 w1
theorem tp_or {a b : Bool} (h1 : Tp P w K t env a) (h2 : a = false → Tp P w K u env b) : Tp P w K (tOr t u) env (a || b) := fun F0 H0 F H σ S Q q => h1 F0 H0 F H σ S _ fun F1 H1 w1 => by
  cases a with
  | false =>
    show u σ H1 Q
    exact h2 rfl F0 H0 F1 H1 σ (S.wk w1) Q fun F2 H2 w2 => q F2 H2 (w1.trans w2)
  | true =>
    show Q true H1
    exact q F1 H1 w1
theorem tp_not {a : Bool} (h : Tp P w K t env a) : Tp P w K (tNot t) env (!a) := fun F0 H0 F H σ S Q q => h F0 H0 F H σ S _ fun F1 H1 w1 => q F1 H1 w1
theorem ep_and {a b : Bool} (h1 : Ep P w K ta env (.bl a)) (h2 : a = true → Ep P w K tb env (.bl b)) : Ep P w K (tAndV ta tb) env (.bl (a && b)) := fun F0 H0 F H σ S Q q => h1 F0 H0 F H σ S _ fun v F1 H1 w1 r1 => ⟨a, r1, by
  cases a with
  | true =>
    show tb σ H1 Q
    exact h2 rfl F0 H0 F1 H1 σ (S.wk w1) Q fun v F2 H2 w2 r2 => q v F2 H2 (w1.trans w2) r2
  | false =>
    show Q (.bl false) H1
    exact q _ F1 H1 w1 rfl⟩
theorem ep_or {a b : Bool} (h1 : Ep P w K ta env (.bl a)) (h2 : a = false → Ep P w K tb env (.bl b)) : Ep P w K (tOrV ta tb) env (.bl (a || b)) := fun F0 H0 F H σ S Q q => h1 F0 H0 F H σ S _ fun v F1 H1 w1 r1 => ⟨a, r1, by
  cases a with
  | false =>
    show tb σ H1 Q
    exact h2 rfl F0 H0 F1 H1 σ (S.wk w1) Q fun v F2 H2 w2 r2 => q v F2 H2 (w1.trans w2) r2
  | true =>
    show Q (.bl true) H1
    exact q _ F1 H1 w1 rfl⟩
theorem ep_not {a : Bool} (h1 : Ep P w K ta env (.bl a)) : Ep P w K (tNotV ta) env (.bl (!a)) := fun F0 H0 F H σ S Q q => h1 F0 H0 F H σ S _ fun v F1 H1 w1 r1 => ⟨a, r1, q _ F1 H1 w1 rfl⟩
theorem ep_if {b : Bool} (h : Tp P w K t env b) (h1 : b = true → Ep P w K ta env d) (h2 : b = false → Ep P w K tb env d) : Ep P w K (tIf t ta tb) env d := fun F0 H0 F H σ S Q q => h F0 H0 F H σ S _ fun F1 H1 w1 => by
  cases b with
  | true =>
    show ta σ H1 Q
    exact h1 rfl F0 H0 F1 H1 σ (S.wk w1) Q fun v F2 H2 w2 r2 => q v F2 H2 (w1.trans w2) r2
  | false =>
    show tb σ H1 Q
    exact h2 rfl F0 H0 F1 H1 σ (S.wk w1) Q fun v F2 H2 w2 r2 => q v F2 H2 (w1.trans w2) r2
theorem tp_tru {b : Bool} (h : Ep P w K te env d) (hb : truD d = some b) : Tp P w K (fun σ H Q => te σ H fun x H' => ∃ k, TruV K x H' k ∧ Q k H') env b := fun F0 H0 F H σ S Q q => h F0 H0 F H σ S _ fun v F1 H1 w1 r1 => by
  refine ⟨b, ?_, q F1 H1 w1⟩
  cases d <;> simp only [truD, Option.some.injEq, reduceCtorEq] at hb
  · cases r1; exact hb.symm
  · cases r1; exact hb.symm
  · cases r1; exact hb.symm
  · obtain ⟨a, vs, rfl, h1, h2⟩ := r1
    exact .inr (.inl ⟨vs, ex_t w1.s h1, by rw [← hb, isEmpty_rp h2]⟩)
  · obtain ⟨a, vs, rfl, h1, h2⟩ := r1
    exact .inl ⟨vs, ex_l w1.s h1, by rw [← hb, isEmpty_rp h2]⟩

theorem qo_none : Op P w K tNoPart env none := fun F0 H0 F H σ S Q q => q F H (Wk.refl S.sub)
theorem qo_some {i : Int} (h : Ep P w K te env (.int i)) : Op P w K (tPart te) env (some i) := fun F0 H0 F H σ S Q q => h F0 H0 F H σ S _ fun v F1 H1 w1 r => ⟨i, r, q F1 H1 w1⟩
theorem ep_slS {x : Str} {lo hi : Option Int} (h : Ep P w K te env (.str x)) (h1 : Op P w K tl env lo) (h2 : Op P w K th env hi) (hl : x.length ≤ 100000) : Ep P w K (tSl rSlS te tl th) env (.str (cutS x lo hi)) := fun F0 H0 F H σ S Q q =>
  h F0 H0 F H σ S _ fun v F1 H1 w r => h1 F0 H0 F1 H1 σ (S.wk w) _ fun F2 H2 w2 => h2 F0 H0 F2 H2 σ ((S.wk w).wk w2) _ fun F3 H3 w3 => ⟨x, r, sz_of hl, q _ F3 H3 ((w.trans w2).trans w3) rfl⟩
theorem np_slL {xs : List Dt} {lo hi : Option Int} (h : Ep P w K te env (.lst xs)) (h1 : Op P w K tl env lo) (h2 : Op P w K th env hi) : EpN P w K (tSl (rSlL K) te tl th) env ((xs.drop (HT.sIx xs.length 0 lo)).take (HT.sIx xs.length xs.length hi - HT.sIx xs.length 0 lo)) := fun F0 H0 F H σ S Q q =>
  h F0 H0 F H σ S _ fun v F1 H1 w r => h1 F0 H0 F1 H1 σ (S.wk w) _ fun F2 H2 w2 => h2 F0 H0 F2 H2 σ ((S.wk w).wk w2) _ fun F3 H3 w3 => by
    obtain ⟨a, vs, rfl, g1, g2⟩ := r
    refine ⟨a, vs, rfl, ex_l (w.s.trans (w2.h.trans w3.h)) g1, fun p hp => q p _ F3 _ (((w.trans w2).trans w3).trans (Wk.own w3.s _ hp)) (fresh_back ((w.trans w2).trans w3).h hp) (none_sub w3.s hp) upd_same ?_⟩
    unfold cutV
    rw [← g2.length]
    exact RpL.take _ (RpL.drop _ (g2.mono (w2.f.trans w3.f)))
theorem ap_starL {tr : TA} {ds es : List Dt} (h : Ep P w K te env (.lst ds)) (hr : EpA P w K tr env es) : EpA P w K (StX.tStar K te tr) env (ds ++ es) := fun F0 H0 F H σ S Q q =>
  h F0 H0 F H σ S _ fun x F1 H1 w1 ⟨a, vs, e, s, r1⟩ => ⟨a, vs, e, .inr (ex_l w1.s s), hr F0 H0 F1 H1 σ (S.wk w1) _ fun us F2 H2 w2 r2 => q (vs ++ us) F2 H2 (w1.trans w2) (RpL.append (r1.mono w2.f) r2)⟩
theorem ap_starT {tr : TA} {ds es : List Dt} (h : Ep P w K te env (.tup ds)) (hr : EpA P w K tr env es) : EpA P w K (StX.tStar K te tr) env (ds ++ es) := fun F0 H0 F H σ S Q q =>
  h F0 H0 F H σ S _ fun x F1 H1 w1 ⟨a, vs, e, s, r1⟩ => ⟨a, vs, e, .inl (ex_t w1.s s), hr F0 H0 F1 H1 σ (S.wk w1) _ fun us F2 H2 w2 r2 => q (vs ++ us) F2 H2 (w1.trans w2) (RpL.append (r1.mono w2.f) r2)⟩

theorem ee_p (h : Ep P w K te env d) : Ee P w K te env d env := .nw h
theorem te_p {b : Bool} (h : Tp P w K t env b) : Te P w K t env b env := ⟨Sh.refl, fun F0 H0 F H σ S Q q => h F0 H0 F H σ S Q fun F' H' k => q F' H' (.of k) (S.wk k)⟩
theorem ea_p {ta : TA} {ds : List Dt} (h : EpA P w K ta env ds) : EeA P w K ta env ds env := ⟨Sh.refl, fun F0 H0 F H σ S Q q => h F0 H0 F H σ S Q fun vs F' H' k r => q vs F' H' (.of k) (S.wk k) r⟩
theorem eo_p {o : Ow} (h : EpO P w K te env o) : EnO P w K te env o env := ⟨Sh.refl, fun F0 H0 F H σ S Q q => h F0 H0 F H σ S Q fun p o F' H' k n1 n2 h1 r => q p o F' H' (.of k) (S.wk k) n1 n2 h1 r⟩
theorem po_n {ds : List Dt} (h : EpN P w K te env ds) : EpO P w K te env (.lst ds) := fun F0 H0 F H σ S Q q => h F0 H0 F H σ S Q fun p vs F' H' k n1 n2 h1 r => q p _ F' H' k n1 n2 h1 ⟨vs, rfl, r⟩
theorem en_p {ds : List Dt} (h : EpN P w K te env ds) : EnL P w K te env ds env := eo_p (po_n h)
theorem oo_p {to : TO} {o : Option Int} (h : Op P w K to env o) : Oo P w K to env o env := ⟨Sh.refl, fun F0 H0 F H σ S Q q => h F0 H0 F H σ S Q fun F' H' k => q F' H' (.of k) (S.wk k)⟩
theorem po_cb {r : List V → Hp → VK → Prop} {ta : TA} {ds : List Dt} {o : Ow} (h : EpA P w K ta env ds) (hr : RLo P w K r ds o) : EpO P w K (tCB r ta) env o := fun F0 H0 F H σ S Q q =>
  h F0 H0 F H σ S _ fun vs F1 H1 w1 r1 => hr F1 H1 vs w1.s r1 Q fun p ho F3 H3 w3 n1 n2 h3 r3 => q p ho F3 H3 (w1.trans w3) (none_sub w1.h n1) n2 h3 r3
theorem po_dt {o : Ow} (h : EpO P w K te env o) (hd : o.dt = some d := by rfl) : Ep P w K te env d := fun F0 H0 F H σ S Q q =>
  h F0 H0 F H σ S Q fun p ho F1 H1 k n1 n2 h1 r1 => q (.ref p) (L2.upd F1 p ho) H1 (k.give S.sub n1 h1) ((r1.mono (Ex.new n2)).rp hd upd_same)
end
end Qw

set_option maxHeartbeats 1000000
/-! ### promises, statements, loops -/
namespace Qw
open PySem PySem.Spec PyProof.Rows L2 Evl
open Pw (Dt Rp RpL Wk none_sub get_set set_same set_ne R2d R1d RLd RLn Kq KqL truD isEmpty_rp flatD fl py pyL rangeD rangeD_len charsD wl_at Wl wl_range)
/-- what a def gives: data, a new thing, an exception -/
inductive Rs where
  | d (d : Dt) | o (u : Ow) | x (x : Xn)
def RsK (P : Program) (w : World) (K : PySem.W.Frag) (F H : Hp) (Q : VK) (E : XK) : Rs → Prop
  | .d d => Kq K F H d Q
  | .o u => ∀ p o F' H', Wk F H F' H' → H p = none → F' p = none → H' p = some o → OwOk P w K F' p u o → Q (.ref p) H'
  | .x x => ∀ od F' H', Wk F H F' H' → XnOk K F' x od → E (.ref x.C) od H'
def spR (P : Program) (w : World) (K : PySem.W.Frag) (R : List Dt → Rs → Prop) : Sp := fun vs H Q E => ∃ F ds r, Ex F H ∧ RpL K F ds vs ∧ R ds r ∧ RsK P w K F H Q E r
/-- a def that changes its first argument: R arguments-but-the-first, what it was, what is given, what it is then -/
def spM (P : Program) (w : World) (K : PySem.W.Frag) (R : Ow → List Dt → Dt → Ow → Prop) : Sp := fun vs H Q _ => ∃ F p vs' o u ds d u', vs = .ref p :: vs' ∧ Ex F H ∧ F p = none ∧ H p = some o ∧ OwOk P w K F p u o ∧ RpL K F ds vs' ∧ R u ds d u' ∧
  ∀ v F' H' o', Ex F F' → Ex F' H' → (∀ a z, a ≠ p → H a = some z → H' a = some z) → (∀ a z, H a = some z → F a = none → F' a = none) → (∀ a, H' a = none → H a = none) → H' p = some o' → OwOk P w K F' p u' o' → Rp K F' d v → Q v H'
inductive Out where
  | nx (e : En) | ct (e : En) | nc (e : En) | bk (e : En) | rt (d : Dt) | rte (d : Dt) (e : En) | ro (u : Ow) | rz (W : WX) (x : Xn) (e : En)
section
variable (P : Program) (w : World) (K : PySem.W.Frag)
def Po (F0 H0 F : Hp) (D : Ends) : Out → Prop
  | .nx e => ∀ F' H' σ', Ex F F' → Sm P w K F0 H0 F' H' σ' e → D.nx σ' H'
  | .ct e => ∀ F' H' σ', Ex F F' → Sm P w K F0 H0 F' H' σ' e → D.ct σ' H'
  | .nc e => ∀ F' H' σ', Ex F F' → Sm P w K F0 H0 F' H' σ' e → D.nx σ' H' ∧ D.ct σ' H'
  | .bk e => ∀ F' H' σ', Ex F F' → Sm P w K F0 H0 F' H' σ' e → D.bk σ' H'
  | .rt d => ∀ v F' H', Wk F0 H0 F' H' → Rp K F' d v → D.rt v H'
  | .rte d e => ∀ v F' H' σ', Ex F F' → Sm P w K F0 H0 F' H' σ' e → Rp K F' d v → D.rt v H'
  | .ro u => ∀ p o F' H', Wk F0 H0 F' H' → H0 p = none → F' p = none → H' p = some o → OwOk P w K F' p u o → D.rt (.ref p) H'
  | .rz W x e => ∀ od F' H' σ', Ex F F' → Sm P w K F0 H0 F' H' σ' e → XnOk K F' x od → W (.ref x.C) od σ' H'
def Se (t : TS) (env : En) (o : Out) : Prop := ∀ F0 H0 F H σ D, Sm P w K F0 H0 F H σ env → Po P w K F0 H0 F D o → t D σ H
def Ge (g : TG) (d : Dt) (env env' : En) : Prop := ∀ F0 H0 F H σ v, Sm P w K F0 H0 F H σ env → Rp K F d v → ∀ Q : L2.St → Hp → Prop, (∀ F' H' σ', Ex F F' → Sm P w K F0 H0 F' H' σ' env' → Q σ' H') → g v σ H Q
/-- an expression that raises -/
def Er (W : WX) (te : TE) (env : En) (x : Xn) (env' : En) : Prop := ∀ F0 H0 F H σ, Sm P w K F0 H0 F H σ env → ∀ Q : VK, (∀ od F' H', Ex F F' → Sm P w K F0 H0 F' H' σ env' → XnOk K F' x od → W (.ref x.C) od σ H') → te σ H Q
def Ie (wi : TI) (env : En) (ds : List Dt) (env' : En) : Prop := ∀ F0 H0 F H σ, Sm P w K F0 H0 F H σ env → ∀ R : It → Hp → Prop, (∀ J F' H', Ex F F' → Sm P w K F0 H0 F' H' σ env' → Wl K F' J ds → R J H') → wi σ H R
/-- .. that changes nothing -/
def Ip (wi : TI) (env : En) (ds : List Dt) : Prop := ∀ F0 H0 F H σ, Sm P w K F0 H0 F H σ env → ∀ R : It → Hp → Prop, (∀ J F' H', Wk F H F' H' → Wl K F' J ds → R J H') → wi σ H R
end
section
variable {P : Program} {w : World} {K : PySem.W.Frag} {env env1 env2 env3 : En} {ta tb te tc : TE} {t u : TT} {d e z : Dt} {s s1 s2 : TS} {o : Out} {g : TG} {tA : TA} {R : List Dt → Rs → Prop} {ds : List Dt}
/-! calls -/
theorem ep_call {E : XK} (h : EpA P w K tA env ds) (hf : R ds (.d d)) : Ep P w K (tCall (spR P w K R) [] E tA) env d := fun F0 H0 F H σ S Q q =>
  h F0 H0 F H σ S _ fun vs F1 H1 w1 r1 => ⟨F1, ds, .d d, w1.s, by rw [List.append_nil]; exact r1, hf, fun v F2 H2 w2 r2 => q v F2 H2 (w1.trans w2) r2⟩
theorem ep_callS {E : L2.St → XK} (h : EpA P w K tA env ds) (hf : R ds (.d d)) : Ep P w K (tCallS (spR P w K R) E tA) env d := fun F0 H0 F H σ S Q q =>
  h F0 H0 F H σ S _ fun vs F1 H1 w1 r1 => ⟨F1, ds, .d d, w1.s, r1, hf, fun v F2 H2 w2 r2 => q v F2 H2 (w1.trans w2) r2⟩
theorem po_call {E : XK} {u : Ow} (h : EpA P w K tA env ds) (hf : R ds (.o u)) : EpO P w K (tCall (spR P w K R) [] E tA) env u := fun F0 H0 F H σ S Q q =>
  h F0 H0 F H σ S _ fun vs F1 H1 w1 r1 => ⟨F1, ds, .o u, w1.s, by rw [List.append_nil]; exact r1, hf, fun p o F2 H2 w2 n1 n2 h1 r2 => q p o F2 H2 (w1.trans w2) (none_sub w1.h n1) n2 h1 r2⟩
theorem po_callS {E : L2.St → XK} {u : Ow} (h : EpA P w K tA env ds) (hf : R ds (.o u)) : EpO P w K (tCallS (spR P w K R) E tA) env u := fun F0 H0 F H σ S Q q =>
  h F0 H0 F H σ S _ fun vs F1 H1 w1 r1 => ⟨F1, ds, .o u, w1.s, r1, hf, fun p o F2 H2 w2 n1 n2 h1 r2 => q p o F2 H2 (w1.trans w2) (none_sub w1.h n1) n2 h1 r2⟩
theorem ee_call {E : XK} (h : EeA P w K tA env ds env1) (hf : R ds (.d d)) : Ee P w K (tCall (spR P w K R) [] E tA) env d env1 := ⟨h.1, fun F0 H0 F H σ S Q q =>
  h.2 F0 H0 F H σ S _ fun vs F1 H1 w1 S1 r1 => ⟨F1, ds, .d d, S1.sub, by rw [List.append_nil]; exact r1, hf, fun v F2 H2 w2 r2 => q v F2 H2 (w1.trans h.1 (.of w2)) (S1.wk w2) r2⟩⟩
theorem eo_call {E : XK} {u : Ow} (h : EeA P w K tA env ds env1) (hf : R ds (.o u)) : EnO P w K (tCall (spR P w K R) [] E tA) env u env1 := ⟨h.1, fun F0 H0 F H σ S Q q =>
  h.2 F0 H0 F H σ S _ fun vs F1 H1 w1 S1 r1 => ⟨F1, ds, .o u, S1.sub, by rw [List.append_nil]; exact r1, hf, fun p o F2 H2 w2 n1 n2 h1 r2 => q p o F2 H2 (w1.trans h.1 (.of w2)) (S1.wk w2) (w1.b p n1) n2 h1 r2⟩⟩
theorem er_callS {W : WX} {x : Xn} (h : EpA P w K tA env ds) (hf : R ds (.x x)) : Er P w K W (tCallS (spR P w K R) (WE W) tA) env x env := fun F0 H0 F H σ S Q q =>
  h F0 H0 F H σ S _ fun vs F1 H1 w1 r1 => ⟨F1, ds, .x x, w1.s, r1, hf, fun od F2 H2 w2 r2 => q od F2 H2 (w1.f.trans w2.f) (S.wk (w1.trans w2)) r2⟩
/-- f(p, ..), p one's own, changed by f -/
theorem ee_callM {E : XK} {i : Nat} {Rm : Ow → List Dt → Dt → Ow → Prop} {ta' : TA} {t' : Option Addr} {u u' : Ow} (h : EpA P w K ta' env ds) (hi : env[i]? = some (.ow t' u)) (hf : Rm u ds d u') :
    Ee P w K (tCall (spM P w K Rm) [] E (tCons (tVar i) ta')) env d (env.set i (.ow t' u')) := ⟨Sh.set hi, fun F0 H0 F H σ S Q q => by
  obtain ⟨p, o1, e1, g0, g1, g2, g3, g4⟩ := S.own hi
  refine ⟨_, e1, h F0 H0 F H σ S _ fun vs F1 H1 w1 r1 => ⟨F1, p, vs, o1, u, ds, d, u', by rw [List.append_nil], w1.s, w1.n p _ g3 g1, w1.h p _ g3, g4.mono w1.f, r1, hf, fun v F2 H2 o2 f2 s2 k2 n2 b2 h2 r2 rv => ?_⟩⟩
  -- the heap behind the call, with p as it was
  have kW : Wk F H F2 (L2.upd H2 p o1) := by
    refine ⟨w1.f.trans f2, fun a v e => ?_, fun a v e => ?_, fun a v e n => ?_⟩
    · by_cases z : a = p
      · subst z
        rw [g3] at e
        rw [upd_same, e]
      · rw [upd_ne z]
        exact k2 a v z (w1.h a v e)
    · by_cases z : a = p
      · subst z
        have := n2 a _ (w1.h a _ g3) (w1.n a _ g3 g1)
        rw [this] at e
        cases e
      · rw [upd_ne z]
        exact s2 a v e
    · exact n2 a v (w1.h a v e) (w1.n a v e n)
  have S2 := S.wk kW
  have e2 : L2.upd (L2.upd H2 p o1) p o2 = H2 := by
    funext a
    by_cases z : a = p
    · subst z
      rw [upd_same, h2]
    · rw [upd_ne z, upd_ne z]
  have S3 := S2.mut hi e1 r2
  have W3 := Wo.mut (o := o2) S2 hi e1
  rw [e2] at S3 W3
  exact q v F2 H2 ((Wo.of kW).trans Sh.refl W3) S3 rv⟩
theorem spR_len {n : Nat} (hf : ∀ ds r, R ds r → ds.length = n) (vs : List V) (H : Hp) (Q : VK) (E : XK) (h : spR P w K R vs H Q E) : vs.length = n := by
  obtain ⟨F, ds, d, _, r, e, _⟩ := h
  rw [← r.length]
  exact hf ds d e
/-! statements -/
theorem Po.ex {F0 H0 F F' : Hp} {D : Ends} (e : Ex F F') (p : Po P w K F0 H0 F D o) : Po P w K F0 H0 F' D o := by
  cases o with
  | nx e1 => exact fun F2 H2 σ2 e2 S => p F2 H2 σ2 (e.trans e2) S
  | ct e1 => exact fun F2 H2 σ2 e2 S => p F2 H2 σ2 (e.trans e2) S
  | nc e1 => exact fun F2 H2 σ2 e2 S => p F2 H2 σ2 (e.trans e2) S
  | bk e1 => exact fun F2 H2 σ2 e2 S => p F2 H2 σ2 (e.trans e2) S
  | rt d => exact p
  | rte d e1 => exact fun v F2 H2 σ2 e2 S => p v F2 H2 σ2 (e.trans e2) S
  | ro u => exact p
  | rz W x e1 => exact fun od F2 H2 σ2 e2 S => p od F2 H2 σ2 (e.trans e2) S
theorem ge_name {i : Nat} : Ge P w K (gName i) d env (env.set i (.d d)) := fun F0 H0 F H σ v S r Q q => q F H _ (Ex.refl F) (S.setD r)
theorem se_asgG (h : Ee P w K te env d env1) (hg : Ge P w K g d env1 env2) : Se P w K (tAsg te g) env (.nx env2) := fun F0 H0 F H σ D S p =>
  h.2 F0 H0 F H σ S _ fun v F1 H1 k S1 r => hg F0 H0 F1 H1 σ v S1 r _ fun F2 H2 σ' e S' => p F2 H2 σ' (k.f.trans e) S'
theorem se_asg {i : Nat} (h : Ee P w K te env d env1) : Se P w K (tAsg te (gName i)) env (.nx (env1.set i (.d d))) := se_asgG h ge_name
/-- x = a new thing that will be changed -/
theorem se_own {i : Nat} {v : Ow} (h : EnO P w K te env v env1) : Se P w K (tAsg te (gName i)) env (.nx (env1.set i (.ow none v))) := fun F0 H0 F H σ D S p =>
  h.2 F0 H0 F H σ S _ fun a ho F1 H1 k S1 n1 n2 h1 r => p F1 H1 _ k.f (S1.setO n2 (none_sub S.g.h n1) h1 r fun z => S.ownNew n1 (h.1.own z))
theorem se_ret (h : Ee P w K te env d env1) : Se P w K (tRet te) env (.rt d) := fun F0 H0 F H σ D S p => h.2 F0 H0 F H σ S _ fun v F1 H1 k S1 r => p v F1 H1 S1.g r
theorem se_rte (h : Ee P w K te env d env1) : Se P w K (tRet te) env (.rte d env1) := fun F0 H0 F H σ D S p => h.2 F0 H0 F H σ S _ fun v F1 H1 k S1 r => p v F1 H1 σ k.f S1 r
theorem se_ro {v : Ow} (h : EnO P w K te env v env1) : Se P w K (tRet te) env (.ro v) := fun F0 H0 F H σ D S p => h.2 F0 H0 F H σ S _ fun a ho F1 H1 k S1 n1 n2 h1 r => p a ho F1 H1 S1.g (none_sub S.g.h n1) n2 h1 r
/-- return x, x one's own -/
theorem se_roV {i : Nat} {t' : Option Addr} {v : Ow} (h : env[i]? = some (.ow t' v)) : Se P w K (tRet (tVar i)) env (.ro v) := fun F0 H0 F H σ D S p => by
  obtain ⟨a, ho, e1, _, g1, g2, g3, g4⟩ := S.own h
  exact ⟨_, e1, p a ho F H S.g g2 g1 g3 g4⟩
theorem se_retN : Se P w K tRetN env (.rt .non) := fun F0 H0 F H σ D S p => p _ F H S.g rfl
theorem se_next : Se P w K tNext env (.nx env) := fun F0 H0 F H σ D S p => p F H σ (Ex.refl F) S
theorem se_break : Se P w K tBreak env (.bk env) := fun F0 H0 F H σ D S p => p F H σ (Ex.refl F) S
theorem se_cont : Se P w K tCont env (.ct env) := fun F0 H0 F H σ D S p => p F H σ (Ex.refl F) S
theorem se_drop (h : Ee P w K te env d env1) : Se P w K (tDrop te) env (.nx env1) := fun F0 H0 F H σ D S p => h.2 F0 H0 F H σ S _ fun v F1 H1 k S1 r => p F1 H1 σ k.f S1
theorem se_dropX {W : WX} {x : Xn} (h : Er P w K W te env x env1) : Se P w K (tDrop te) env (.rz W x env1) := fun F0 H0 F H σ D S p => h F0 H0 F H σ S _ fun od F1 H1 k S1 r => p od F1 H1 σ k S1 r
theorem se_asgX {W : WX} {x : Xn} (h : Er P w K W te env x env1) : Se P w K (tAsg te g) env (.rz W x env1) := fun F0 H0 F H σ D S p => h F0 H0 F H σ S _ fun od F1 H1 k S1 r => p od F1 H1 σ k S1 r
theorem se_retX {W : WX} {x : Xn} (h : Er P w K W te env x env1) : Se P w K (tRet te) env (.rz W x env1) := fun F0 H0 F H σ D S p => h F0 H0 F H σ S _ fun od F1 H1 k S1 r => p od F1 H1 σ k S1 r
theorem se_seq (h1 : Se P w K s1 env (.nx env1)) (h2 : Se P w K s2 env1 o) : Se P w K (tSeq s1 s2) env o := fun F0 H0 F H σ D S p =>
  h1 F0 H0 F H σ _ S fun F1 H1 σ1 e1 S1 => h2 F0 H0 F1 H1 σ1 D S1 (p.ex e1)
/-- an end that no later statement sees -/
def Out.fin : Out → Bool
  | .nx _ => false
  | .nc _ => false
  | _ => true
theorem se_seqF (h1 : Se P w K s1 env o) (f : o.fin = true := by rfl) : Se P w K (tSeq s1 s2) env o := fun F0 H0 F H σ D S p => by
  refine h1 F0 H0 F H σ _ S ?_
  cases o <;> first | exact p | cases f
theorem se_nc (h : Se P w K s env (.nx env1)) : Se P w K s env (.nc env1) := fun F0 H0 F H σ D S p => h F0 H0 F H σ D S fun F1 H1 σ1 e1 S1 => (p F1 H1 σ1 e1 S1).1
theorem se_cc (h : Se P w K s env (.ct env1)) : Se P w K s env (.nc env1) := fun F0 H0 F H σ D S p => h F0 H0 F H σ D S fun F1 H1 σ1 e1 S1 => (p F1 H1 σ1 e1 S1).2
theorem se_if {b : Bool} (h : Te P w K t env b env1) (h1 : b = true → Se P w K s1 env1 o) (h2 : b = false → Se P w K s2 env1 o) : Se P w K (tIfS t s1 s2) env o := fun F0 H0 F H σ D S p => h.2 F0 H0 F H σ S _ fun F1 H1 k S1 => by
  cases b with
  | true =>
    show s1 D σ H1
    exact h1 rfl F0 H0 F1 H1 σ D S1 (p.ex k.f)
  | false =>
    show s2 D σ H1
    exact h2 rfl F0 H0 F1 H1 σ D S1 (p.ex k.f)
/-- if t: s1 (no else), then s2 -/
theorem se_when {b : Bool} (h : Te P w K t env b env1) (h1 : b = true → Se P w K (tSeq s1 s2) env1 o) (h2 : b = false → Se P w K s2 env1 o) : Se P w K (tSeq (tIfS t s1 tNext) s2) env o := fun F0 H0 F H σ D S p => h.2 F0 H0 F H σ S _ fun F1 H1 k S1 => by
  cases b with
  | true =>
    show s1 { D with nx := s2 D } σ H1
    exact h1 rfl F0 H0 F1 H1 σ D S1 (p.ex k.f)
  | false =>
    show s2 D σ H1
    exact h2 rfl F0 H0 F1 H1 σ D S1 (p.ex k.f)
/-- if t: s1 else: s2, then s -/
theorem se_ifq {b : Bool} (h : Te P w K t env b env1) (h1 : b = true → Se P w K (tSeq s1 s) env1 o) (h2 : b = false → Se P w K (tSeq s2 s) env1 o) : Se P w K (tSeq (tIfS t s1 s2) s) env o := fun F0 H0 F H σ D S p => h.2 F0 H0 F H σ S _ fun F1 H1 k S1 => by
  cases b with
  | true =>
    show s1 { D with nx := s D } σ H1
    exact h1 rfl F0 H0 F1 H1 σ D S1 (p.ex k.f)
  | false =>
    show s2 { D with nx := s D } σ H1
    exact h2 rfl F0 H0 F1 H1 σ D S1 (p.ex k.f)
theorem se_le (h : Se P w K s env (.nx env1)) (l : Le env1 env2) : Se P w K s env (.nx env2) := fun F0 H0 F H σ D S p => h F0 H0 F H σ D S fun F1 H1 σ1 e1 S1 => p F1 H1 σ1 e1 (S1.le l)
theorem se_lec (h : Se P w K s env (.nc env1)) (l : Le env1 env2) : Se P w K s env (.nc env2) := fun F0 H0 F H σ D S p => h F0 H0 F H σ D S fun F1 H1 σ1 e1 S1 => p F1 H1 σ1 e1 (S1.le l)
theorem se_pre (l : Le env env1) (h : Se P w K s env1 o) : Se P w K s env o := fun F0 H0 F H σ D S p => h F0 H0 F H σ D (S.le l) p
theorem se_freeze {i : Nat} {t' : Option Addr} {v : Ow} (hi : env[i]? = some (.ow t' v)) (hd : v.dt = some d) (h : Se P w K s (env.set i (.d d)) o) : Se P w K s env o := fun F0 H0 F H σ D S p => by
  obtain ⟨a, ho, h1, h2, h3, h4, h5, S'⟩ := S.freeze hi hd
  exact h F0 H0 _ H σ D S' (p.ex (Ex.new h2))
theorem se_is (h : Se P w K s env o) {o' : Out} (e : o = o') : Se P w K s env o' := e ▸ h
/-- a state that the slots' form allows not -/
theorem se_rt_of {v : Ow} (h : Se P w K s env (.ro v)) (hd : v.dt = some d) : Se P w K s env (.rt d) := fun F0 H0 F H σ D S p => h F0 H0 F H σ D S fun a ho F1 H1 k n0 n1 h1 r =>
  p (.ref a) (L2.upd F1 a ho) H1 ⟨fun b v e => by
    rw [upd_ne (ne_of_none (k.f b v e) n1)]
    exact k.f b v e, k.h, fun b v e => by
    by_cases z : b = a
    · subst z
      rw [upd_same] at e
      rw [h1, ← e]
    · rw [upd_ne z] at e
      exact k.s b v e, fun b v e n => by
    rw [upd_ne (ne_of_none e n0)]
    exact k.n b v e n⟩ ((r.mono (Ex.new n1)).rp hd upd_same)
/-! targets -/
def Gs (P : Program) (w : World) (K : PySem.W.Frag) (g : TGs) (ds : List Dt) (env env' : En) : Prop := ∀ F0 H0 F H σ vs, Sm P w K F0 H0 F H σ env → RpL K F ds vs → ∀ Q : L2.St → Hp → Prop, (∀ F' H' σ', Ex F F' → Sm P w K F0 H0 F' H' σ' env' → Q σ' H') → g vs σ H Q
theorem gs_nil : Gs P w K gNil [] env env := fun F0 H0 F H σ vs S r Q q => ⟨r, q F H σ (Ex.refl F) S⟩
theorem gs_cons {gr : TGs} (h : Ge P w K g d env env1) (hr : Gs P w K gr ds env1 env2) : Gs P w K (gCons g gr) (d :: ds) env env2 := fun F0 H0 F H σ vs S r Q q => by
  obtain ⟨v, rest, rfl, r1, r2⟩ := r
  exact ⟨v, rest, rfl, h F0 H0 F H σ v S r1 _ fun F1 H1 σ1 e1 S1 => hr F0 H0 F1 H1 σ1 rest S1 (r2.mono e1) Q fun F2 H2 σ2 e2 S2 => q F2 H2 σ2 (e1.trans e2) S2⟩
theorem ge_tup {gs : TGs} {n : Nat} (h : Gs P w K gs ds env env1) (hn : ds.length = n := by rfl) : Ge P w K (gTup K n gs) (.tup ds) env env1 := fun F0 H0 F H σ v S r Q q => by
  obtain ⟨a, vs, rfl, h1, h2⟩ := r
  exact ⟨a, vs, rfl, ex_t S.sub h1, by rw [← h2.length]; exact hn, h F0 H0 F H σ vs S h2 Q q⟩
/-! one's own, changed -/
theorem se_app {i : Nat} {t' : Option Addr} {xs : List Dt} (hi : env[i]? = some (.ow t' (.lst xs))) (h : Ee P w K te env d env1) (hi1 : env1[i]? = some (.ow t' (.lst xs)) := by rfl) (hz : xs.length < 100000) : Se P w K (tDrop (tBM K "list" rAppend (tVar i) (tCons te tNil))) env (.nx (env1.set i (.ow t' (.lst (xs ++ [d]))))) := fun F0 H0 F H σ D S p => by
  obtain ⟨a, ho, h1, g0, g1, g2, g3, vs, rfl, g4⟩ := S.own hi
  refine ⟨_, h1, .inl ⟨rfl, vs, sq_of g3⟩, h.2 F0 H0 F H σ S _ fun v F1 H1 k S1 r => ?_⟩
  obtain ⟨b, ho', e1, f0, f1, f2, f3, us, rfl, f4⟩ := S1.own hi1
  rw [h1] at e1
  cases e1
  exact ⟨a, us, v, rfl, rfl, f3, sz_lt (by rw [← f4.length]; exact hz), p F1 _ σ k.f (S1.mut hi1 h1 ⟨_, rfl, RpL.append f4 (RpL.cons r RpL.nil)⟩)⟩
theorem se_setL {i : Nat} {t' : Option Addr} {xs : List Dt} {k : Int} {n : Nat} (h : Ee P w K te env d env1) (hk : Ee P w K tb env1 (.int k) env2) (hi : env2[i]? = some (.ow t' (.lst xs)) := by rfl) (hn : ixN xs.length k = some n) : Se P w K (tAsg te (gSub (tVar i) tb rSetL)) env (.nx (env2.set i (.ow t' (.lst (xs.set n d))))) := fun F0 H0 F H σ D S p => by
  refine h.2 F0 H0 F H σ S _ fun v F1 H1 k1 S1 r => ?_
  have own1 : ∃ (t1 : Option Addr) (u1 : Ow), env1[i]? = some (.ow t1 u1) := by
    have hl : i < env1.length := by
      rw [hk.1.1]
      exact (List.getElem?_eq_some_iff.mp hi).1
    rcases hk.1.2 i env1[i] (List.getElem?_eq_getElem hl) with z | ⟨t1, u1, u2, z, _⟩
    · rw [hi] at z
      exact ⟨_, _, by rw [List.getElem?_eq_getElem hl, ← Option.some.inj z]⟩
    · exact ⟨t1, u1, by rw [List.getElem?_eq_getElem hl, z]⟩
  obtain ⟨t1, u1, hi1⟩ := own1
  obtain ⟨a, ho, h1, _⟩ := S1.own hi1
  refine ⟨_, h1, hk.2 F0 H0 F1 H1 σ S1 _ fun kv F2 H2 k2 S2 r2 => ?_⟩
  obtain ⟨b, ho', e1, f0, f1, f2, f3, us, rfl, f4⟩ := S2.own hi
  rw [h1] at e1
  cases e1
  exact ⟨a, us, k, n, rfl, r2, f3, by rw [← f4.length]; exact hn, p F2 _ σ (k1.f.trans k2.f) (S2.mut hi h1 ⟨_, rfl, RpL.set n f4 (r.mono k2.f)⟩)⟩
/-! a def's body -/
theorem Sm.start {F H : Hp} {vs : List V} {N : List Str} (e : Ex F H) (r : RpL K F ds vs) : Sm P w K F H F H (L2.start N vs) (ds.map Sl.d ++ List.replicate (N.length - ds.length) Sl.u) := by
  have hl := r.length
  refine ⟨e, Wk.refl e, by simp [L2.start, hl], fun i s h => ?_, fun i j t t' u u' p ne e1 e2 _ => ?_⟩
  · unfold L2.start
    by_cases hi : i < ds.length
    · rw [List.getElem?_append_left (by simpa using hi), List.getElem?_map] at h
      cases q : ds[i]? with
      | none => rw [q] at h; cases h
      | some d =>
        rw [q] at h
        cases h
        obtain ⟨v, h1, h2⟩ := r.get q
        exact ⟨some v, by rw [List.getElem?_append_left (by simp; omega), List.getElem?_map, h1]; rfl, v, rfl, h2⟩
    · rw [List.getElem?_append_right (by simpa using hi), List.length_map, List.getElem?_replicate] at h
      split at h
      · rename_i lt
        cases h
        exact ⟨none, by rw [List.getElem?_append_right (by simp; omega), List.length_map, List.getElem?_replicate, if_pos (by omega)], rfl⟩
      · cases h
  · by_cases hi : i < ds.length
    · rw [List.getElem?_append_left (by simpa using hi), List.getElem?_map] at e1
      cases q : ds[i]? <;> rw [q] at e1 <;> cases e1
    · rw [List.getElem?_append_right (by simpa using hi), List.length_map, List.getElem?_replicate] at e1
      split at e1 <;> cases e1
/-- the end that a result asks of the body -/
def outR (E : XK) (e : En) : Rs → Out
  | .d d => .rt d
  | .o u => .ro u
  | .x y => .rz (fun cls d _ H => E cls d H) y e
/-- the body does what is due: for an exception, whatever the slots are -/
def Does (P : Program) (w : World) (K : PySem.W.Frag) (E : XK) (s : TS) (env : En) : Rs → Prop
  | .d d => Se P w K s env (.rt d) ∨ (d = .non ∧ ∃ e, Se P w K s env (.nx e))
  | .o u => Se P w K s env (.ro u)
  | .x x => ∃ e, Se P w K s env (.rz (fun cls d _ H => E cls d H) x e)
theorem run_r {N : List Str} {vs : List V} {H : Hp} {Q : VK} {E : XK} (h : spR P w K R vs H Q E) (b : ∀ ds r, R ds r → Does P w K E s (ds.map Sl.d ++ List.replicate (N.length - ds.length) Sl.u) r) : s { nx := fun _ H' => Q .non H', rt := Q } (L2.start N vs) H := by
  obtain ⟨F, ds, r, e, rp, hf, q⟩ := h
  have hb := b ds r hf
  cases r with
  | d d =>
    rcases hb with hb | ⟨rfl, e1, hb⟩
    · exact hb F H F H _ _ (Sm.start e rp) fun v F' H' k r' => q v F' H' k r'
    · exact hb F H F H _ _ (Sm.start e rp) fun F' H' σ' _ S => q .non F' H' S.g rfl
  | o u => exact hb F H F H _ _ (Sm.start e rp) fun p o F' H' k n0 n1 h1 r' => q p o F' H' k n0 n1 h1 r'
  | x x =>
    obtain ⟨e1, hb⟩ := hb
    exact hb F H F H _ _ (Sm.start e rp) fun od F' H' σ' _ S r' => q od F' H' S.g r'
end
end Qw

set_option maxHeartbeats 1000000
/-! ### loops, comprehensions -/
namespace Qw
open PySem PySem.Spec PyProof.Rows L2 Evl
open Pw (Dt Rp RpL Wk none_sub get_set set_same set_ne R2d R1d RLd RLn Kq KqL truD isEmpty_rp flatD fl py pyL rangeD rangeD_len charsD wl_at Wl wl_range rangeD_nat find_split itemD)
section
variable {P : Program} {w : World} {K : PySem.W.Frag} {env env1 env2 env3 : En} {ta tb te tc tl : TE} {t u : TT} {d e z : Dt} {s s1 s2 : TS} {o : Out} {g : TG} {tA : TA} {ds : List Dt} {wi : TI}
theorem ip_list (h : Ep P w K tl env (.lst ds)) : Ip P w K (iList K tl) env ds := fun F0 H0 F H σ S R k =>
  h F0 H0 F H σ S _ fun v F1 H1 k1 r => by
    obtain ⟨a, vs, rfl, h1, h2⟩ := r
    exact ⟨a, rfl, ⟨vs, ex_l k1.s h1⟩, k _ F1 H1 k1 (wl_at h2 walk_list fun H e => ex_l e h1)⟩
theorem ip_tup (h : Ep P w K tl env (.tup ds)) : Ip P w K (iTup K tl) env ds := fun F0 H0 F H σ S R k =>
  h F0 H0 F H σ S _ fun v F1 H1 k1 r => by
    obtain ⟨a, vs, rfl, h1, h2⟩ := r
    exact ⟨a, rfl, ⟨vs, ex_t k1.s h1⟩, k _ F1 H1 k1 (wl_at h2 walk_tup fun H e => ex_t e h1)⟩
theorem ip_rng1 {n : Int} (h : EpA P w K tA env [.int n]) (hn : -100000 ≤ n ∧ n ≤ 100000) : Ip P w K (iRng1 tA) env (rangeD 0 n.toNat) := fun F0 H0 F H σ S R k =>
  h F0 H0 F H σ S _ fun vs F1 H1 k1 r => by
    obtain ⟨v, r', rfl, e1, e2⟩ := r
    cases e1; cases e2
    exact ⟨n, rfl, by omega, by omega, k _ F1 H1 k1 wl_range⟩
theorem ip_rng2 {lo n : Int} (h : EpA P w K tA env [.int lo, .int n]) (hn : -100000 ≤ n ∧ n ≤ 100000 ∧ -100000 ≤ lo ∧ lo ≤ 100000) : Ip P w K (iRng2 tA) env (rangeD lo (n - lo).toNat) := fun F0 H0 F H σ S R k =>
  h F0 H0 F H σ S _ fun vs F1 H1 k1 r => by
    obtain ⟨v, r', rfl, e1, v2, r2, rfl, e2, e3⟩ := r
    cases e1; cases e2; cases e3
    exact ⟨lo, n, rfl, ⟨by omega, by omega, by omega, by omega⟩, k _ F1 H1 k1 wl_range⟩
theorem ip_str {x : Str} (h : Ep P w K tl env (.str x)) : Ip P w K (iStr tl) env (charsD x) := fun F0 H0 F H σ S R k =>
  h F0 H0 F H σ S _ fun v F1 H1 k1 r => by
    cases r
    refine ⟨x, rfl, k _ F1 H1 k1 ?_⟩
    have hl : (charsD x).length = x.cps.size := by simp [charsD]
    unfold Wl
    rw [hl]
    refine walk_str.mono (fun _ _ => trivial) fun i H x' H' hi e y F2 e2 e3 => ?_
    obtain ⟨rfl, c, hc, rfl⟩ := y
    exact ⟨F2, .str ⟨#[c]⟩, Wk.refl e3, by simp [charsD, hc], rfl⟩
theorem ie_p (h : Ip P w K wi env ds) : Ie P w K wi env ds env := fun F0 H0 F H σ S R k => h F0 H0 F H σ S R fun J F1 H1 k1 W => k J F1 H1 k1.f (S.wk k1) W
/-! loops -/
theorem se_for {tb : TS} (hI : Ie P w K wi env ds env1) (E : Nat → En) (m : Nat) (hm : m ≤ ds.length) (h0 : Le env1 (E 0))
    (hs : ∀ i d, i < m → ds[i]? = some d → ∃ e1, Ge P w K g d (E i) e1 ∧ Se P w K tb e1 (.nc (E (i + 1))))
    (hd : (m = ds.length ∧ o = .nx (E m)) ∨ ∃ d e1, ds[m]? = some d ∧ Ge P w K g d (E m) e1 ∧ ((o.fin = true ∧ (∀ e, o ≠ .bk e) ∧ (∀ e, o ≠ .ct e) ∧ Se P w K tb e1 o) ∨ ∃ e, o = .nx e ∧ Se P w K tb e1 (.bk e))) : Se P w K (tFor wi g tb) env o := fun F0 H0 F H σ D S p =>
  hI F0 H0 F H σ S _ fun J F1 H1 f1 S1 W => by
    refine for_it W (fun i σ H => i ≤ m ∧ ∃ F, Ex F1 F ∧ Sm P w K F0 H0 F H σ (E i)) ⟨Nat.zero_le m, F1, Ex.refl F1, S1.le h0⟩ (fun i σ H _ h => ?_) (fun i x σ H H' hi h y => ?_) (fun σ H h => ?_)
    · obtain ⟨_, F2, e2, S2⟩ := h
      exact e2.trans S2.sub
    · obtain ⟨him, F2, e2, S2⟩ := h
      obtain ⟨F3, d, w3, hd', r3⟩ := y F2 e2 S2.sub
      by_cases hlt : i < m
      · obtain ⟨e1, hg, hb⟩ := hs i d hlt hd'
        refine hg F0 H0 F3 H' σ x (S2.wk w3) r3 _ fun F4 H4 σ3 e3 S3 => ?_
        refine hb F0 H0 F4 H4 σ3 _ S3 fun F5 H5 σ4 e4 S4 => ⟨⟨hlt, F5, ((e2.trans w3.f).trans e3).trans e4, S4⟩, ⟨hlt, F5, ((e2.trans w3.f).trans e3).trans e4, S4⟩⟩
      · have him' : i = m := by omega
        subst him'
        rcases hd with ⟨e, _⟩ | ⟨d', e1, h1, hg, hb⟩
        · omega
        · rw [hd'] at h1
          cases h1
          refine hg F0 H0 F3 H' σ x (S2.wk w3) r3 _ fun F4 H4 σ3 e3 S3 => ?_
          have ef : Ex F F4 := ((f1.trans e2).trans w3.f).trans e3
          rcases hb with ⟨ho, nb, nc, hz⟩ | ⟨e, rfl, hz⟩
          · refine hz F0 H0 F4 H4 σ3 _ S3 ?_
            have p' := p.ex ef
            cases o <;> first | exact p' | (cases ho; done) | exact absurd rfl (nb _) | exact absurd rfl (nc _)
          · exact hz F0 H0 F4 H4 σ3 _ S3 fun F5 H5 σ4 e4 S4 => p F5 H5 σ4 (ef.trans e4) S4
    · obtain ⟨hn, F2, e2, S2⟩ := h
      have e : m = ds.length := by omega
      rcases hd with ⟨_, rfl⟩ | ⟨d', e1, h1, _⟩
      · rw [← e] at S2
        exact p F2 H σ (f1.trans e2) S2
      · have := (List.getElem?_eq_some_iff.mp h1).1
        omega
/-- a fold -/
theorem se_fold {α S : Type} {tb : TS} (xs : List α) (dec : α → Dt) (hds : ds = xs.map dec) (hI : Ip P w K wi env ds) (enc : S → En) (step : S → α → S) (Pv : S → List α → Prop) (s0 : S) (h0 : Le env (enc s0)) (p0 : Pv s0 [])
    (hs : ∀ s pre a post, xs = pre ++ a :: post → Pv s pre → Pv (step s a) (pre ++ [a]) ∧ ∃ e1, Ge P w K g (dec a) (enc s) e1 ∧ Se P w K tb e1 (.nc (enc (step s a)))) : Se P w K (tFor wi g tb) env (.nx (enc (xs.foldl step s0))) := by
  subst hds
  have key : ∀ i, i ≤ xs.length → Pv ((xs.take i).foldl step s0) (xs.take i) := by
    intro i
    induction i with
    | zero => intro _; exact p0
    | succ i ih =>
      intro hi
      have hx : xs = xs.take i ++ xs[i] :: xs.drop (i + 1) := by simp
      have e : xs.take (i + 1) = xs.take i ++ [xs[i]] := by simp
      rw [e, List.foldl_append]
      exact (hs _ (xs.take i) xs[i] (xs.drop (i + 1)) hx (ih (by omega))).1
  refine se_for (ie_p hI) (fun i => enc ((xs.take i).foldl step s0)) xs.length (by simp) h0 (fun i d hi hd => ?_) (.inl ⟨by simp, by simp⟩)
  rw [List.getElem?_map, List.getElem?_eq_getElem hi] at hd
  cases hd
  have hx : xs = xs.take i ++ xs[i] :: xs.drop (i + 1) := by simp
  obtain ⟨_, e1, h1, h2⟩ := hs _ (xs.take i) xs[i] (xs.drop (i + 1)) hx (key i (by omega))
  refine ⟨e1, h1, ?_⟩
  have e : xs.take (i + 1) = xs.take i ++ [xs[i]] := by simp
  rw [e, List.foldl_append]
  exact h2
/-- for i in range(n) -/
theorem se_rng {S : Type} {tb : TS} (n : Nat) (h : EpA P w K tA env [.int (n : Int)]) (hn : n ≤ 100000) (enc : S → En) (step : S → Nat → S) (Pv : S → Nat → Prop) (s0 : S) (h0 : Le env (enc s0)) (p0 : Pv s0 0)
    (hs : ∀ s (i : Nat), i < n → Pv s i → Pv (step s i) (i + 1) ∧ ∃ e1, Ge P w K g (.int (i : Int)) (enc s) e1 ∧ Se P w K tb e1 (.nc (enc (step s i)))) : Se P w K (tFor (iRng1 tA) g tb) env (.nx (enc ((List.range n).foldl step s0))) := by
  refine se_fold (List.range n) (fun i => Dt.int (i : Int)) (rangeD_nat n) (ip_rng1 h (by omega)) enc step (fun s pre => Pv s pre.length) s0 h0 p0 fun s pre i post hx hp => ?_
  have hi : pre.length < n ∧ i = pre.length := by
    have h1 := congrArg List.length hx
    have h2 : (List.range n)[pre.length]? = some i := by rw [hx]; simp
    simp at h1
    rw [List.getElem?_range (by omega)] at h2
    exact ⟨by omega, (Option.some.inj h2).symm⟩
  obtain ⟨hl, rfl⟩ := hi
  obtain ⟨h1, h2⟩ := hs s pre.length hl hp
  refine ⟨?_, h2⟩
  rw [List.length_append]
  exact h1
/-- a loop that searches: at the first d with p d it ends as z d says -/
theorem se_find {tb : TS} (p : Dt → Bool) (z : Dt → Out) (hz : ∀ d, (z d).fin = true ∧ (∀ e, z d ≠ .bk e) ∧ (∀ e, z d ≠ .ct e)) (hI : Ip P w K wi env ds) (E : En) (h0 : Le env E) (hs : ∀ d ∈ ds, ∃ e1, Ge P w K g d E e1 ∧ (p d = true → Se P w K tb e1 (z d)) ∧ (p d = false → Se P w K tb e1 (.nc E))) :
    Se P w K (tFor wi g tb) env (match ds.find? p with | some d => z d | none => .nx E) := by
  cases h : ds.find? p with
  | none =>
    have hn : ∀ d ∈ ds, p d = false := fun d hd => by simpa using List.find?_eq_none.mp h d hd
    refine se_for (ie_p hI) (fun _ => E) ds.length (Nat.le_refl _) h0 (fun i d hi hd => ?_) (.inl ⟨rfl, rfl⟩)
    have hm := List.mem_of_getElem? hd
    obtain ⟨e1, h1, _, h3⟩ := hs d hm
    exact ⟨e1, h1, h3 (hn d hm)⟩
  | some d =>
    obtain ⟨i, h1, h2, h3⟩ := find_split h
    have hi : i < ds.length := (List.getElem?_eq_some_iff.mp h1).1
    refine se_for (ie_p hI) (fun _ => E) i (Nat.le_of_lt hi) h0 (fun j x hj hx => ?_) (.inr ?_)
    · obtain ⟨e1, g1, _, g3⟩ := hs x (List.mem_of_getElem? hx)
      exact ⟨e1, g1, g3 (h3 j x hj hx)⟩
    · obtain ⟨e1, g1, g2, _⟩ := hs d (List.mem_of_getElem? h1)
      exact ⟨d, e1, h1, g1, .inl ⟨(hz d).1, (hz d).2.1, (hz d).2.2, g2 h2⟩⟩
theorem se_while {tb : TS} (Pv : En → Prop) (μ : En → Nat) (hs : ∀ e, Pv e → ∃ b, Te P w K t e b e ∧ (b = true → (∃ e', Pv e' ∧ μ e' < μ e ∧ Se P w K tb e (.nc e')) ∨ (o.fin = true ∧ (∀ e, o ≠ .bk e) ∧ (∀ e, o ≠ .ct e) ∧ Se P w K tb e o) ∨ ∃ e', o = .nx e' ∧ Se P w K tb e (.bk e')) ∧ (b = false → o = .nx e)) (h0 : Pv env) : Se P w K (tWhile t tb) env o := fun F0 H0 F H σ D S p => by
  refine ⟨fun m σ' H' => ∃ e F', Pv e ∧ μ e = m ∧ Ex F F' ∧ Sm P w K F0 H0 F' H' σ' e, ⟨_, env, F, h0, rfl, Ex.refl F, S⟩, ?_⟩
  rintro m σ' H' ⟨e, F', hP, rfl, ex, S'⟩
  obtain ⟨b, hb, h1, h2⟩ := hs e hP
  refine hb.2 F0 H0 F' H' σ' S' _ fun F1 H1 k S1 => ?_
  cases b with
  | true =>
    refine ⟨fun σ2 H2 => ∃ e2 F2, Pv e2 ∧ μ e2 < μ e ∧ Ex F F2 ∧ Sm P w K F0 H0 F2 H2 σ2 e2, fun σ2 H2 ⟨e2, F2, a, b, c, d⟩ => ⟨μ e2, b, e2, F2, a, rfl, c, d⟩, ?_⟩
    rcases h1 rfl with ⟨e', p1, p2, p3⟩ | ⟨ho, nb, nc, p3⟩ | ⟨e', rfl, p3⟩
    · exact p3 F0 H0 F1 H1 σ' _ S1 fun F4 H4 σ4 e4 S4 => ⟨⟨e', F4, p1, p2, (ex.trans k.f).trans e4, S4⟩, ⟨e', F4, p1, p2, (ex.trans k.f).trans e4, S4⟩⟩
    · refine p3 F0 H0 F1 H1 σ' _ S1 ?_
      have p' := p.ex (ex.trans k.f)
      cases o <;> first | exact p' | (cases ho; done) | exact absurd rfl (nb _) | exact absurd rfl (nc _)
    · exact p3 F0 H0 F1 H1 σ' _ S1 fun F4 H4 σ4 e4 S4 => p F4 H4 σ4 ((ex.trans k.f).trans e4) S4
  | false =>
    have := h2 rfl
    subst this
    exact p F1 H1 σ' (ex.trans k.f) S1
/-! comprehensions -/
/-- targets of a comprehension: only the slots vs are stored, and the heap stays -/
def Gc (P : Program) (w : World) (K : PySem.W.Frag) (g : TG) (vs : List Nat) (d : Dt) (env env' : En) : Prop := ∀ F0 H0 F H (σ : L2.St) v, Sm P w K F0 H0 F H (L2.wipe σ vs) env → Rp K F d v → ∀ Q : L2.St → Hp → Prop, (∀ σ', L2.wipe σ' vs = L2.wipe σ vs → (∀ a, Own σ' env' a → Own (L2.wipe σ vs) env a) → Sm P w K F0 H0 F H σ' env' → Q σ' H) → g v (L2.wipe σ vs) H Q
theorem own_set {σ : L2.St} {j : Nat} {v : V} {a : Addr} (h : Own (σ.set j (some v)) (env.set j (.d d)) a) : Own σ env a := by
  obtain ⟨i, t, u, h1, h2⟩ := h
  rcases get_set h1 with ⟨_, z, _⟩ | ⟨ne, h1⟩
  · cases z
  · rw [set_ne ne] at h2
    exact ⟨i, t, u, h1, h2⟩
theorem own_unset {σ : L2.St} {j : Nat} {a : Addr} (h : Own (σ.set j none) (env.set j .u) a) : Own σ env a := by
  obtain ⟨i, t, u, h1, h2⟩ := h
  rcases get_set h1 with ⟨_, z, _⟩ | ⟨ne, h1⟩
  · cases z
  · rw [set_ne ne] at h2
    exact ⟨i, t, u, h1, h2⟩
theorem gc_name {j : Nat} : Gc P w K (gName j) [j] d env (env.set j (.d d)) := fun F0 H0 F H σ v S r Q q => q _ (by simp [L2.wipe, List.set_set]) (fun _ h => own_set h) (S.setD r)
/-- (a, b) -/
theorem gc_two {j k : Nat} {d1 d2 : Dt} (ne : j ≠ k) : Gc P w K (gTup K 2 (gCons (gName j) (gCons (gName k) gNil))) [j, k] (.tup [d1, d2]) env ((env.set j (.d d1)).set k (.d d2)) := fun F0 H0 F H σ v S r Q q => by
  obtain ⟨a, vs, rfl, h1, v1, r1, rfl, q1, v2, r2, rfl, q2, e⟩ := r
  cases e
  refine ⟨a, _, rfl, ex_t S.sub h1, rfl, v1, _, rfl, v2, _, rfl, rfl, q _ ?_ (fun _ h => own_set (own_set h)) ((S.setD q1).setD q2)⟩
  apply List.ext_getElem?
  intro i
  simp only [L2.wipe, List.getElem?_set, List.length_set]
  by_cases e1 : j = i <;> by_cases e2 : k = i <;> simp [e1, e2]
/-- (a, b, c) -/
theorem gc_three {j k l : Nat} {d1 d2 d3 : Dt} : Gc P w K (gTup K 3 (gCons (gName j) (gCons (gName k) (gCons (gName l) gNil)))) [j, k, l] (.tup [d1, d2, d3]) env (((env.set j (.d d1)).set k (.d d2)).set l (.d d3)) := fun F0 H0 F H σ v S r Q q => by
  obtain ⟨a, vs, rfl, h1, v1, r1, rfl, q1, v2, r2, rfl, q2, v3, r3, rfl, q3, e⟩ := r
  cases e
  refine ⟨a, _, rfl, ex_t S.sub h1, rfl, v1, _, rfl, v2, _, rfl, v3, _, rfl, rfl, q _ ?_ (fun _ h => own_set (own_set (own_set h))) (((S.setD q1).setD q2).setD q3)⟩
  apply List.ext_getElem?
  intro i
  simp only [L2.wipe, List.getElem?_set, List.length_set]
  by_cases e1 : j = i <;> by_cases e2 : k = i <;> by_cases e3 : l = i <;> simp [e1, e2, e3]
def wipeE (e : En) : List Nat → En
  | [] => e
  | j :: r => (wipeE e r).set j .u
theorem Sm.wipe {F0 H0 F H : Hp} {σ : L2.St} {env : En} (S : Sm P w K F0 H0 F H σ env) : ∀ vs : List Nat, Sm P w K F0 H0 F H (L2.wipe σ vs) (wipeE env vs)
  | [] => S
  | j :: r => (Sm.wipe S r).setU j
theorem own_wipe {σ : L2.St} {env : En} {a : Addr} : ∀ {vs : List Nat}, Own (L2.wipe σ vs) (wipeE env vs) a → Own σ env a
  | [], h => h
  | j :: r, h => own_wipe (vs := r) (own_unset h)
/-- a list comprehension whose parts change nothing -/
theorem np_lcT {α : Type} {tt : TT} {vs : List Nat} (xs : List α) (dec : α → Dt) (hI : Ip P w K wi env (xs.map dec)) (hn : xs.length ≤ 40000) (p : α → Bool) (v : α → Dt)
    (hs : ∀ (i : Nat) (a : α), xs[i]? = some a → ∃ e1, Gc P w K g vs (dec a) (wipeE env vs) e1 ∧ Tp P w K tt e1 (p a) ∧ (p a = true → Ep P w K te e1 (v a))) : EpN P w K (tLc wi g tt te vs) env ((xs.filter p).map v) := fun F0 H0 F H σ S Q q =>
  hI F0 H0 F H σ S _ fun J F1 H1 k1 W D hD => by
    have nF : F1 D = none := none_sub k1.s hD
    have S1 := S.wk k1
    have n0 : H0 D = none := none_sub S1.g.h hD
    have nO : ¬ Own σ env D := S1.ownNew hD
    refine lc_it W (fun i H2 => ∃ F2 acc, Ex F1 F2 ∧ F2 D = none ∧ H2 D = some (.lst acc) ∧ RpL K F2 (((xs.take i).filter p).map v) acc ∧ Sm P w K F0 H0 F2 H2 σ env ∧ Ex H1 H2 ∧ (∀ a o, H1 a = some o → F1 a = none → F2 a = none))
      ⟨F1, [], Ex.refl F1, nF, upd_same, rfl, S1.upd _ nF n0 nO, Ex.new hD, fun _ _ _ n => n⟩ (fun i H2 _ h => ?_) (fun i x H2 H2' hi h y => ?_) (fun H2 h => ?_)
    · obtain ⟨F2, acc, e2, _, _, _, S2, _⟩ := h
      exact e2.trans S2.sub
    · obtain ⟨F2, acc, e2, d2, h2, r2, S2, x2, n2⟩ := h
      obtain ⟨F3, d', w3, hd', r3⟩ := y F2 e2 S2.sub
      rw [List.length_map] at hi
      rw [List.getElem?_map, List.getElem?_eq_getElem hi] at hd'
      obtain ⟨d, hd⟩ : ∃ d, xs[i]? = some d := ⟨_, List.getElem?_eq_getElem hi⟩
      have : d' = dec d := by
        rw [List.getElem?_eq_getElem hi] at hd
        cases hd
        exact (Option.some.inj hd').symm
      subst this
      obtain ⟨e1, hg, ht, he⟩ := hs i d hd
      have etake : xs.take (i + 1) = xs.take i ++ [d] := by
        rw [List.take_add_one, hd]
        rfl
      refine hg F0 H0 F3 H2' σ x ((S2.wk w3).wipe vs) r3 _ fun σ' hw _ S3 => ⟨hw, ?_⟩
      refine ht F0 H0 F3 H2' _ S3 _ fun F4 H4 w4 => ?_
      have hD4 : H4 D = some (.lst acc) := w4.h D _ (w3.h D _ h2)
      cases hp : p d with
      | true =>
        show te σ' H4 _
        refine he hp F0 H0 F4 H4 _ (S3.wk w4) _ fun vv F5 H5 w5 r5 => ?_
        have hD5 : H5 D = some (.lst acc) := w5.h D _ hD4
        have w35 : Wk F2 H2 F5 H5 := (w3.trans w4).trans w5
        have dF5 : F5 D = none := w35.n D _ h2 d2
        have hlen : acc.length < sizeLine := by
          rw [← r2.length, List.length_map]
          have h1 := List.length_filter_le p (xs.take i)
          have h2 : (xs.take i).length ≤ i := by simp; omega
          exact sz_lt (by omega)
        refine ⟨acc, hD5, hlen, F5, acc ++ [vv], e2.trans w35.f, dF5, upd_same, ?_, (S2.wk w35).upd _ dF5 n0 nO, fun a o h => ?_, fun a o h h' => w35.n a o (x2 a o h) (n2 a o h h')⟩
        · rw [etake, List.filter_append, List.map_append]
          refine RpL.append (r2.mono w35.f) ?_
          rw [List.filter_cons, if_pos hp]
          exact RpL.cons r5 RpL.nil
        · rw [upd_ne (ne_of_none h hD)]
          exact w35.h a o (x2 a o h)
      | false =>
        have w34 : Wk F2 H2 F4 H4 := w3.trans w4
        refine ⟨F4, acc, e2.trans w34.f, w34.n D _ h2 d2, hD4, ?_, S2.wk w34, x2.trans w34.h, fun a o h h' => w34.n a o (x2 a o h) (n2 a o h h')⟩
        rw [etake, List.filter_append, List.map_append, List.filter_cons, if_neg (by simp [hp])]
        show RpL K F4 (((xs.take i).filter p).map v ++ []) acc
        rw [List.append_nil]
        exact r2.mono w34.f
    · obtain ⟨F2, acc, e2, d2, h2, r2, S2, x2, n2⟩ := h
      rw [List.length_map, List.take_length] at r2
      exact q D acc F2 H2 (k1.trans ⟨e2, x2, S2.sub, n2⟩) (none_sub k1.h hD) d2 h2 r2
theorem np_lcG {tt : TT} {vs : List Nat} (hI : Ip P w K wi env ds) (hn : ds.length ≤ 40000) (p : Dt → Bool) (v : Dt → Dt)
    (hs : ∀ d ∈ ds, ∃ e1, Gc P w K g vs d (wipeE env vs) e1 ∧ Tp P w K tt e1 (p d) ∧ (p d = true → Ep P w K te e1 (v d))) : EpN P w K (tLc wi g tt te vs) env ((ds.filter p).map v) :=
  np_lcT ds id (by rw [List.map_id]; exact hI) hn p v fun i a h => hs a (List.mem_of_getElem? h)
theorem tp_yes : Tp P w K tYes env true := fun F0 H0 F H σ S Q q => q F H (Wk.refl S.sub)
theorem np_lc {tt : TT} {j : Nat} (hI : Ip P w K wi env ds) (hn : ds.length ≤ 40000) (p : Dt → Bool) (v : Dt → Dt) (ht : ∀ d ∈ ds, Tp P w K tt (env.set j (.d d)) (p d)) (he : ∀ d ∈ ds, p d = true → Ep P w K te (env.set j (.d d)) (v d)) :
    EpN P w K (tLc wi (gName j) tt te [j]) env ((ds.filter p).map v) := np_lcG hI hn p v fun d hd => ⟨_, gc_name, by rw [show wipeE env [j] = env.set j .u from rfl, List.set_set]; exact ⟨ht d hd, he d hd⟩⟩
theorem np_map {j : Nat} (hI : Ip P w K wi env ds) (hn : ds.length ≤ 40000) (v : Dt → Dt) (he : ∀ d ∈ ds, Ep P w K te (env.set j (.d d)) (v d)) : EpN P w K (tLc wi (gName j) tYes te [j]) env (ds.map v) := by
  have h := np_lc (te := te) (j := j) hI hn (fun _ => true) v (fun d _ => tp_yes) fun d hd _ => he d hd
  have e : ds.filter (fun _ => true) = ds := by simp
  rw [e] at h
  exact h
/-- .. over a typed list -/
theorem np_mapT {α : Type} {j : Nat} (xs : List α) (dec : α → Dt) (hI : Ip P w K wi env (xs.map dec)) (hn : xs.length ≤ 40000) (v : α → Dt) (he : ∀ (i : Nat) (a : α), xs[i]? = some a → Ep P w K te (env.set j (.d (dec a))) (v a)) : EpN P w K (tLc wi (gName j) tYes te [j]) env (xs.map v) := by
  have h := np_lcT (te := te) (vs := [j]) (g := gName j) (tt := tYes) xs dec hI hn (fun _ => true) v fun i a h => ⟨_, gc_name, tp_yes, fun _ => by rw [show wipeE env [j] = env.set j .u from rfl, List.set_set]; exact he i a h⟩
  have e : xs.filter (fun _ => true) = xs := by simp
  rw [e] at h
  exact h
theorem np_filT {α : Type} {j : Nat} {tt : TT} (xs : List α) (dec : α → Dt) (hI : Ip P w K wi env (xs.map dec)) (hn : xs.length ≤ 40000) (p : α → Bool) (v : α → Dt) (ht : ∀ (i : Nat) (a : α), xs[i]? = some a → Tp P w K tt (env.set j (.d (dec a))) (p a)) (he : ∀ (i : Nat) (a : α), xs[i]? = some a → p a = true → Ep P w K te (env.set j (.d (dec a))) (v a)) : EpN P w K (tLc wi (gName j) tt te [j]) env ((xs.filter p).map v) :=
  np_lcT (te := te) (vs := [j]) (g := gName j) xs dec hI hn p v fun i a h => ⟨_, gc_name, by rw [show wipeE env [j] = env.set j .u from rfl, List.set_set]; exact ⟨ht i a h, he i a h⟩⟩
theorem np_rng {j n : Nat} (h : EpA P w K tA env [.int (n : Int)]) (hn : n ≤ 40000) (v : Nat → Dt) (he : ∀ i : Nat, i < n → Ep P w K te (env.set j (.d (.int (i : Int)))) (v i)) : EpN P w K (tLc (iRng1 tA) (gName j) tYes te [j]) env ((List.range n).map v) := by
  have hl : (rangeD 0 (n : Int).toNat).length ≤ 40000 := by rw [rangeD_nat]; simpa using hn
  have h1 := np_map (te := te) (j := j) (ip_rng1 h (by omega)) hl (fun d => match d with | .int x => v x.toNat | _ => .non) fun d hd => by
    rw [rangeD_nat] at hd
    obtain ⟨i, hi, rfl⟩ := List.mem_map.mp hd
    exact he i (by simpa using hi)
  rw [rangeD_nat, List.map_map] at h1
  exact h1
end
end Qw

set_option maxHeartbeats 1000000
/-! ### dicts with ints and texts as keys, sets, lists of one's own read -/
namespace Qw
open PySem PySem.Spec PyProof.Rows L2 Evl
open Pw (Dt Rp RpL Wk none_sub get_set set_same set_ne R2d R1d RLd RLn Kq KqL truD isEmpty_rp flatD fl py pyL rangeD rangeD_len charsD wl_at Wl wl_range rangeD_nat find_split itemD)
abbrev KD := List (Key × Dt)
abbrev dk (kvs : KD) : Dt := .dic (kvs.map Prod.fst) (kvs.map Prod.snd)
abbrev Ow.dk (kvs : KD) : Ow := .dic (kvs.map Prod.fst) (kvs.map Prod.snd)
def valD (kvs : KD) (k : Key) : Option Dt := (kvs.find? fun kv => decide (kv.1 = k)).map (·.2)
def putD (kvs : KD) (k : Key) (d : Dt) : KD := if (kvs.any fun kv => decide (kv.1 = k)) = true then kvs.map (fun kv => if kv.1 = k then (kv.1, d) else kv) else kvs ++ [(k, d)]
def kD : Key → Dt
  | .inl i => .int i
  | .inr x => .str x
theorem kD_rp {K : PySem.W.Frag} {F : Hp} {k : Key} {v : V} (h : Rp K F (kD k) v) : v = kV k := by cases k <;> exact h
section
variable {K : PySem.W.Frag} {F : Hp}
def PrD (K : PySem.W.Frag) (F : Hp) (kvs : KD) (q : List (Key × V)) : Prop := q.map Prod.fst = kvs.map Prod.fst ∧ RpL K F (kvs.map Prod.snd) (q.map Prod.snd)
theorem prD_of {kvs : KD} {vs : List V} (r : RpL K F (kvs.map Prod.snd) vs) : PrD K F kvs ((kvs.map Prod.fst).zip vs) := by
  have h := r.length
  refine ⟨?_, ?_⟩
  · rw [List.map_fst_zip]
    simpa using Nat.le_of_eq h
  · rw [List.map_snd_zip]
    · exact r
    · simpa using Nat.le_of_eq h.symm
theorem prD_zip {kvs : KD} {q : List (Key × V)} (h : PrD K F kvs q) : q = (kvs.map Prod.fst).zip (q.map Prod.snd) := by
  rw [← h.1]
  exact (List.zip_unzip q).symm.trans (by rw [List.unzip_eq_map])
theorem PrD.cons {k : Key} {d : Dt} {v : V} {kvs : KD} {q : List (Key × V)} (r : Rp K F d v) (h : PrD K F kvs q) : PrD K F ((k, d) :: kvs) ((k, v) :: q) := ⟨by simp [h.1], v, _, rfl, r, h.2⟩
theorem PrD.inv {p : Key × Dt} {kvs : KD} {q : List (Key × V)} (h : PrD K F (p :: kvs) q) : ∃ v q', q = (p.1, v) :: q' ∧ Rp K F p.2 v ∧ PrD K F kvs q' := by
  obtain ⟨h1, v, r, h2, h3, h4⟩ := h
  cases q with
  | nil => cases h2
  | cons a q =>
    cases h2
    simp only [List.map_cons, List.cons.injEq] at h1
    exact ⟨a.2, q, by rw [← h1.1], h3, h1.2, h4⟩
theorem PrD.nil {q : List (Key × V)} (h : PrD K F [] q) : q = [] := by
  obtain ⟨h1, _⟩ := h
  simpa using h1
theorem PrD.val : ∀ {kvs : KD} {q : List (Key × V)} (k : Key), PrD K F kvs q → (valD kvs k = none ∧ valV q k = none) ∨ ∃ d v, valD kvs k = some d ∧ valV q k = some v ∧ Rp K F d v
  | [], q, k, h => by
    rw [h.nil]
    exact .inl ⟨rfl, rfl⟩
  | p :: kvs, q, k, h => by
    obtain ⟨v, q', rfl, r, t⟩ := h.inv
    by_cases e : p.1 = k
    · exact .inr ⟨p.2, v, by simp [valD, List.find?_cons, e], by rw [valV_pos e], r⟩
    · rw [valV_neg e, show valD (p :: kvs) k = valD kvs k by simp [valD, List.find?_cons, e]]
      exact PrD.val k t
theorem PrD.any (k : Key) : ∀ {kvs : KD} {q : List (Key × V)}, PrD K F kvs q → (kvs.any fun kv => decide (kv.1 = k)) = (q.any fun kv => decide (kv.1 = k))
  | [], q, h => by rw [h.nil]; rfl
  | p :: kvs, q, h => by
    obtain ⟨v, q', rfl, r, t⟩ := h.inv
    rw [List.any_cons, List.any_cons, PrD.any k t]
theorem PrD.over {d : Dt} {v : V} (k : Key) (r : Rp K F d v) : ∀ {kvs : KD} {q : List (Key × V)}, PrD K F kvs q → PrD K F (kvs.map fun kv => if kv.1 = k then (kv.1, d) else kv) (q.map fun kv => if kv.1 = k then (kv.1, v) else kv)
  | [], q, h => by rw [h.nil]; exact ⟨rfl, rfl⟩
  | p :: kvs, q, h => by
    obtain ⟨u, q', rfl, r', t⟩ := h.inv
    simp only [List.map_cons]
    by_cases e : p.1 = k
    · rw [if_pos e, if_pos e]
      exact .cons r (PrD.over k r t)
    · rw [if_neg e, if_neg e]
      exact .cons r' (PrD.over k r t)
theorem PrD.put {kvs : KD} {q : List (Key × V)} {d : Dt} {v : V} (k : Key) (h : PrD K F kvs q) (r : Rp K F d v) : PrD K F (putD kvs k d) (putK q k v) := by
  unfold putD putK
  rw [h.any k]
  split
  · exact PrD.over k r h
  · refine ⟨by simp [h.1], ?_⟩
    rw [List.map_append, List.map_append]
    exact RpL.append h.2 ⟨v, [], rfl, r, rfl⟩
theorem PrD.mono {F' : Hp} {kvs : KD} {q : List (Key × V)} (e : Ex F F') (h : PrD K F kvs q) : PrD K F' kvs q := ⟨h.1, h.2.mono e⟩
theorem PrD.length {kvs : KD} {q : List (Key × V)} (h : PrD K F kvs q) : kvs.length = q.length := by
  have := congrArg List.length h.1
  simpa using this.symm
end
section
variable {P : Program} {w : World} {K : PySem.W.Frag} {env env1 env2 env3 : En} {ta tb td ty te tc tl : TE} {t u : TT} {d e z : Dt} {s s1 s2 : TS} {o : Out} {g : TG} {tA : TA} {ds : List Dt} {wi : TI} {kvs : KD} {k : Key}
theorem dk_at {F : Hp} {v : V} (h : Rp K F (dk kvs) v) : ∃ a q, v = .ref a ∧ F a = some (.dK q) ∧ PrD K F kvs q := by
  obtain ⟨a, vs, rfl, h1, h2, h3⟩ := h
  exact ⟨a, _, rfl, h1, prD_of h3⟩
theorem odk_at {F : Hp} {a : Addr} {ho : HO} (h : OwOk P w K F a (.dk kvs) ho) : ∃ q, ho = .dK q ∧ PrD K F kvs q := by
  obtain ⟨vs, rfl, h2, h3⟩ := h
  exact ⟨_, rfl, prD_of h3⟩
theorem odk_of {F : Hp} {a : Addr} {q : List (Key × V)} (h : PrD K F kvs q) : OwOk P w K F a (.dk kvs) (.dK q) := ⟨q.map Prod.snd, by rw [← prD_zip h], by simpa using h.length, h.2⟩
theorem dk_of {F : Hp} {a : Addr} {q : List (Key × V)} (hF : F a = some (.dK q)) (h : PrD K F kvs q) : Rp K F (dk kvs) (.ref a) := ⟨a, q.map Prod.snd, rfl, by rw [← prD_zip h]; exact hF, by simpa using h.length, h.2⟩
/-- an expression that gives a dict: data, or one's own -/
def Edk (P : Program) (w : World) (K : PySem.W.Frag) (te : TE) (env : En) (kvs : KD) : Prop := ∀ F0 H0 F H σ, Sm P w K F0 H0 F H σ env → ∀ Q : VK, (∀ a q F' H', Wk F H F' H' → (∀ F2 H2, Wk F' H' F2 H2 → H2 a = some (.dK q)) → PrD K F' kvs q → Q (.ref a) H') → te σ H Q
theorem edk_d (h : Ep P w K te env (dk kvs)) : Edk P w K te env kvs := fun F0 H0 F H σ S Q q => h F0 H0 F H σ S Q fun v F1 H1 k1 r => by
  obtain ⟨a, qs, rfl, h1, h2⟩ := dk_at r
  exact q a qs F1 H1 k1 (fun F2 H2 k2 => k2.h a _ (k1.s a _ h1)) h2
theorem edk_o {i : Nat} {t' : Option Addr} (hi : env[i]? = some (.ow t' (.dk kvs)) := by rfl) : Edk P w K (tVar i) env kvs := fun F0 H0 F H σ S Q q => by
  obtain ⟨a, ho, e1, _, g1, g2, g3, g4⟩ := S.own hi
  obtain ⟨qs, rfl, h2⟩ := odk_at g4
  exact ⟨_, e1, q a qs F H (Wk.refl S.sub) (fun F2 H2 k2 => k2.h a _ g3) h2⟩
theorem ep_dget (h : Edk P w K td env kvs) (hk : Ep P w K ty env (kD k)) (hv : valD kvs k = some d) : Ep P w K (tDGet td ty) env d := fun F0 H0 F H σ S Q q =>
  h F0 H0 F H σ S _ fun a qs F1 H1 k1 st r => hk F0 H0 F1 H1 σ (S.wk k1) _ fun y F2 H2 k2 r2 => by
    rcases r.val k with ⟨z, _⟩ | ⟨d', v, e1, e2, r3⟩
    · rw [hv] at z; cases z
    · rw [hv] at e1
      cases e1
      rw [kD_rp r2]
      exact ⟨a, v, rfl, by rw [← e2]; exact DGet.k (st F2 H2 k2), q v F2 H2 (k1.trans k2) (r3.mono k2.f)⟩
theorem ep_din (h : Edk P w K td env kvs) (hk : Ep P w K ty env (kD k)) : Ep P w K (tDIn ty td) env (.bl (valD kvs k).isSome) := fun F0 H0 F H σ S Q q =>
  hk F0 H0 F H σ S _ fun y F1 H1 k1 r1 => h F0 H0 F1 H1 σ (S.wk k1) _ fun a qs F2 H2 k2 st r => by
    rw [kD_rp r1]
    refine ⟨a, _, rfl, DGet.k (st F2 H2 (Wk.refl k2.s)), ?_⟩
    have e : (valV qs k).isSome = (valD kvs k).isSome := by
      rcases r.val k with ⟨e1, e2⟩ | ⟨d', v, e1, e2, _⟩ <;> rw [e1, e2] <;> rfl
    rw [e]
    exact q _ F2 H2 (k1.trans k2) rfl
theorem ep_dni (h : Edk P w K td env kvs) (hk : Ep P w K ty env (kD k)) : Ep P w K (tDNotIn ty td) env (.bl (!(valD kvs k).isSome)) := fun F0 H0 F H σ S Q q =>
  hk F0 H0 F H σ S _ fun y F1 H1 k1 r1 => h F0 H0 F1 H1 σ (S.wk k1) _ fun a qs F2 H2 k2 st r => by
    rw [kD_rp r1]
    refine ⟨a, _, rfl, DGet.k (st F2 H2 (Wk.refl k2.s)), ?_⟩
    have e : (valV qs k).isSome = (valD kvs k).isSome := by
      rcases r.val k with ⟨e1, e2⟩ | ⟨d', v, e1, e2, _⟩ <;> rw [e1, e2] <;> rfl
    rw [e]
    exact q _ F2 H2 (k1.trans k2) rfl
/-- d.get(k, x), the dict data or one's own, k and x perhaps changing other things -/
theorem ee_dget2 (hk : Ee P w K ty env (kD k) env1) (hx : Ep P w K te env1 e) (hd : Ep P w K td env (dk kvs)) : Ee P w K (tDGet2 td ty te) env ((valD kvs k).getD e) env1 := ⟨hk.1, fun F0 H0 F H σ S Q q =>
  hd F0 H0 F H σ S _ fun v F1 H1 k1 r => by
    obtain ⟨a, qs, rfl, h1, h2⟩ := dk_at r
    refine ⟨a, rfl, .inl ⟨qs, .inl (k1.s a _ h1)⟩, hk.2 F0 H0 F1 H1 σ (S.wk k1) _ fun y F2 H2 k2 S2 r2 => hx F0 H0 F2 H2 σ S2 _ fun x F3 H3 k3 r3 => ?_⟩
    rw [kD_rp r2]
    refine ⟨_, DGet.k (k3.s a _ (k3.f _ _ (k2.f _ _ h1))), ?_⟩
    have w1 : Wo σ env F H F3 H3 := (Wo.of k1).trans Sh.refl (k2.trans hk.1 (.of k3))
    rcases h2.val k with ⟨e1, e2⟩ | ⟨d', v, e1, e2, r4⟩
    · rw [e2]
      rw [e1] at q
      exact q x F3 H3 w1 (S2.wk k3) r3
    · rw [e2]
      rw [e1] at q
      exact q v F3 H3 w1 (S2.wk k3) (r4.mono (k2.f.trans k3.f))⟩
theorem ep_dget2 (h : Edk P w K td env kvs) (hk : Ep P w K ty env (kD k)) (hx : Ep P w K te env e) : Ep P w K (tDGet2 td ty te) env ((valD kvs k).getD e) := fun F0 H0 F H σ S Q q =>
  h F0 H0 F H σ S _ fun a qs F1 H1 k1 st h2 => by
    refine ⟨a, rfl, .inl ⟨qs, .inl (st F1 H1 (Wk.refl k1.s))⟩, hk F0 H0 F1 H1 σ (S.wk k1) _ fun y F2 H2 k2 r2 => hx F0 H0 F2 H2 σ ((S.wk k1).wk k2) _ fun x F3 H3 k3 r3 => ?_⟩
    rw [kD_rp r2]
    refine ⟨_, DGet.k (st F3 H3 (k2.trans k3)), ?_⟩
    rcases h2.val k with ⟨e1, e2⟩ | ⟨d', v, e1, e2, r4⟩
    · rw [e2]
      rw [e1] at q
      exact q x F3 H3 ((k1.trans k2).trans k3) r3
    · rw [e2]
      rw [e1] at q
      exact q v F3 H3 ((k1.trans k2).trans k3) (r4.mono (k2.f.trans k3.f))
/-- d[k] = v -/
theorem se_dput {i : Nat} {t' : Option Addr} (hv : Ee P w K te env d env1) (hk : Ep P w K ty env1 (kD k)) (hi : env1[i]? = some (.ow t' (.dk kvs)) := by rfl) (hz : kvs.length < 100000) : Se P w K (sDPut (tVar i) ty te) env (.nx (env1.set i (.ow t' (.dk (putD kvs k d))))) := fun F0 H0 F H σ D S p =>
  hv.2 F0 H0 F H σ S _ fun v F1 H1 k1 S1 r1 => by
    obtain ⟨a, ho, e1, _, g1, g2, g3, g4⟩ := S1.own hi
    refine ⟨_, e1, hk F0 H0 F1 H1 σ S1 _ fun y F2 H2 k2 r2 => ?_⟩
    obtain ⟨qs, rfl, h2⟩ := odk_at g4
    rw [kD_rp r2]
    exact ⟨a, _, rfl, DPut.k (k2.h a _ g3) (sz_lt (by rw [← h2.length]; exact hz)), p F2 _ σ (k1.f.trans k2.f) ((S1.wk k2).mut hi e1 (odk_of ((h2.mono k2.f).put k (r1.mono k2.f))))⟩
theorem po_dnew : EpO P w K tDNewK env (.dk []) := fun F0 H0 F H σ S Q q p hp => q p _ F (L2.upd H p (.dK [])) (Wk.own S.sub _ hp) hp (none_sub S.sub hp) upd_same (odk_of ⟨rfl, rfl⟩)
/-- {k: v for ..} -/
theorem po_dc {α : Type} {tt : TT} {vs : List Nat} (xs : List α) (dec : α → Dt) (hI : Ip P w K wi env (xs.map dec)) (hn : xs.length ≤ 40000) (p : α → Bool) (kf : α → Key) (vf : α → Dt)
    (hs : ∀ (i : Nat) (a : α), xs[i]? = some a → ∃ e1, Gc P w K g vs (dec a) (wipeE env vs) e1 ∧ Tp P w K tt e1 (p a) ∧ (p a = true → Ep P w K ty e1 (kD (kf a)) ∧ Ep P w K te e1 (vf a))) : EpO P w K (tDc wi g tt ty te vs) env (.dk ((xs.filter p).foldl (fun q a => putD q (kf a) (vf a)) [])) := fun F0 H0 F H σ S Q q =>
  hI F0 H0 F H σ S _ fun J F1 H1 k1 W D hD => by
    have nF : F1 D = none := none_sub k1.s hD
    have S1 := S.wk k1
    have n0 : H0 D = none := none_sub S1.g.h hD
    have nO : ¬ Own σ env D := S1.ownNew hD
    have small : ∀ (l : List α) (q : KD), (l.foldl (fun q a => putD q (kf a) (vf a)) q).length ≤ q.length + l.length := by
      intro l
      induction l with
      | nil => intro q; exact Nat.le_refl _
      | cons a l ih =>
        intro q
        have h1 : (putD q (kf a) (vf a)).length ≤ q.length + 1 := by
          unfold putD
          split <;> simp
        have := ih (putD q (kf a) (vf a))
        simp only [List.foldl_cons, List.length_cons]
        omega
    refine ⟨fun i m H2 => m = xs.length - i ∧ i ≤ xs.length ∧ ∃ F2 acc, Ex F1 F2 ∧ F2 D = none ∧ H2 D = some (.dK acc) ∧ PrD K F2 (((xs.take i).filter p).foldl (fun q a => putD q (kf a) (vf a)) []) acc ∧ Sm P w K F0 H0 F2 H2 σ env ∧ Ex H1 H2 ∧ (∀ a o, H1 a = some o → F1 a = none → F2 a = none),
      ⟨xs.length, by simp, Nat.zero_le _, F1, [], Ex.refl F1, nF, upd_same, ⟨rfl, rfl⟩, S1.upd _ nF n0 nO, Ex.new hD, fun _ _ _ n => n⟩, ?_⟩
    rintro i m H2 ⟨rfl, hi, F2, acc, e2, d2, h2, r2, S2, x2, n2⟩
    have W' := W
    unfold Wl at W'
    rw [List.length_map] at W'
    by_cases hlt : i < xs.length
    · refine .inr ⟨W'.goes i H2 hlt (e2.trans S2.sub), fun H' => ∃ F2 acc, Ex F1 F2 ∧ F2 D = none ∧ H' D = some (.dK acc) ∧ PrD K F2 (((xs.take (i + 1)).filter p).foldl (fun q a => putD q (kf a) (vf a)) []) acc ∧ Sm P w K F0 H0 F2 H' σ env ∧ Ex H1 H' ∧ (∀ a o, H1 a = some o → F1 a = none → F2 a = none), fun H' q => ⟨xs.length - (i + 1), by omega, rfl, hlt, q⟩, fun x H2' y => ?_⟩
      obtain ⟨F3, d', w3, hd', r3⟩ := W'.yields i H2 x H2' hlt (e2.trans S2.sub) y F2 e2 S2.sub
      rw [List.getElem?_map, List.getElem?_eq_getElem hlt] at hd'
      obtain ⟨a, ha⟩ : ∃ a, xs[i]? = some a := ⟨_, List.getElem?_eq_getElem hlt⟩
      have : d' = dec a := by
        rw [List.getElem?_eq_getElem hlt] at ha
        cases ha
        exact (Option.some.inj hd').symm
      subst this
      obtain ⟨e1, hg, ht, he⟩ := hs i a ha
      have etake : xs.take (i + 1) = xs.take i ++ [a] := by
        rw [List.take_add_one, ha]
        rfl
      refine hg F0 H0 F3 H2' σ x ((S2.wk w3).wipe vs) r3 _ fun σ' hw _ S3 => ⟨hw, ?_⟩
      refine ht F0 H0 F3 H2' _ S3 _ fun F4 H4 w4 => ?_
      have hD4 : H4 D = some (.dK acc) := w4.h D _ (w3.h D _ h2)
      rw [etake, List.filter_append, List.foldl_append]
      cases hp : p a with
      | true =>
        show ty σ' H4 _
        obtain ⟨he1, he2⟩ := he hp
        refine he1 F0 H0 F4 H4 _ (S3.wk w4) _ fun yv F5 H5 w5 r5 => he2 F0 H0 F5 H5 _ ((S3.wk w4).wk w5) _ fun vv F6 H6 w6 r6 => ?_
        have hD6 : H6 D = some (.dK acc) := w6.h D _ (w5.h D _ hD4)
        have w36 : Wk F2 H2 F6 H6 := ((w3.trans w4).trans w5).trans w6
        have dF6 : F6 D = none := w36.n D _ h2 d2
        rw [kD_rp r5]
        refine ⟨acc, kf a, rfl, hD6, ?_, F6, _, e2.trans w36.f, dF6, upd_same, ?_, (S2.wk w36).upd _ dF6 n0 nO, fun a o h => ?_, fun a o h h' => w36.n a o (x2 a o h) (n2 a o h h')⟩
        · rw [← r2.length]
          have h1 := small ((xs.take i).filter p) []
          have h3 := List.length_filter_le p (xs.take i)
          have h4 : (xs.take i).length ≤ i := by simp; omega
          simp only [List.length_nil] at h1
          exact sz_lt (by omega)
        · rw [List.filter_cons, if_pos hp]
          exact (r2.mono w36.f).put _ r6
        · rw [upd_ne (ne_of_none h hD)]
          exact w36.h a o (x2 a o h)
      | false =>
        have w34 : Wk F2 H2 F4 H4 := w3.trans w4
        refine ⟨F4, acc, e2.trans w34.f, w34.n D _ h2 d2, hD4, ?_, S2.wk w34, x2.trans w34.h, fun a o h h' => w34.n a o (x2 a o h) (n2 a o h h')⟩
        rw [List.filter_cons, if_neg (by simp [hp])]
        exact r2.mono w34.f
    · have e : i = xs.length := by omega
      subst e
      rw [List.take_length] at r2
      exact .inl ⟨W'.stops H2 (e2.trans S2.sub), q D _ F2 H2 (k1.trans ⟨e2, x2, S2.sub, n2⟩) (none_sub k1.h hD) d2 h2 (odk_of r2)⟩
end
end Qw

set_option maxHeartbeats 1000000
/-! ### defs, methods, classes, exceptions, by name -/
namespace Qw
open PySem PySem.Spec PyProof.Rows L2 Evl
open Pw (Dt Rp RpL Wk none_sub get_set set_same set_ne R2d R1d RLd RLn Kq KqL truD isEmpty_rp flatD fl py pyL rangeD rangeD_len charsD wl_at Wl wl_range rangeD_nat find_split itemD spX2 Xm Xm0)
/-- the def x of the text stands behind the top as st tells it -/
def Dx (K : PySem.W.Frag) (mg : Str → Option Value) (x : Str) (ps : List Str) (st : Stmt) : Prop :=
  ∃ f fd, mg x = some (.ref f) ∧ FunD K x x (defArgs st) (defBody st) (defScope st) [] [] f fd ∧ Binds K fd ps []
/-- x is called by name and keeps sp; it may raise as sp tells -/
def Fx (P : Program) (w : World) (K : PySem.W.Frag) (mg : Str → Option Value) (base : Heap) (k : Nat) (x : Str) (ps : List Str) (sp : Sp) : Prop :=
  ∃ f fd, mg x = some (.ref f) ∧ PySem.W.keepIn K (.ref f) = true ∧ Binds K fd ps [] ∧ FnOk P w K mg base (L2.CX P w) k f fd ps sp
/-- a method's def, of the class at C, its full name q -/
def Dm (K : PySem.W.Frag) (C : Addr) (m q : Str) (ps : List Str) (st : Stmt) : Prop :=
  ∃ f fd, Meth K C m f ∧ FunD K m q (defArgs st) (defBody st) (defScope st) [] [] f fd ∧ Binds K fd ps []
def Mx (P : Program) (w : World) (K : PySem.W.Frag) (mg : Str → Option Value) (base : Heap) (k : Nat) (C : Addr) (m : Str) (ps : List Str) (sp : Sp) : Prop :=
  ∃ f fd, Meth K C m f ∧ Binds K fd ps [] ∧ FnOk P w K mg base (L2.CX P w) k f fd ps sp
/-- the __init__ of the class x at C -/
def Di (K : PySem.W.Frag) (mg : Str → Option Value) (C : Addr) (x q : Str) (ps : List Str) (st : Stmt) : Prop :=
  ∃ f fd, mg x = some (.ref C) ∧ Mk K C f ∧ FunD K "__init__" q (defArgs st) (defBody st) (defScope st) [] [] f fd ∧ Binds K fd ps []
def Ix (P : Program) (w : World) (K : PySem.W.Frag) (mg : Str → Option Value) (base : Heap) (k : Nat) (C : Addr) (x : Str) (ps : List Str) (sp : Sp) : Prop :=
  ∃ f fd, mg x = some (.ref C) ∧ Mk K C f ∧ Binds K fd ps [] ∧ FnOk P w K mg base (L2.CX P w) k f fd ps sp
section
variable {P : Program} {w : World} {K : PySem.W.Frag} {mg : Str → Option Value} {base : Heap} {R : List Dt → Rs → Prop}
theorem Fx.mono {j k : Nat} {x : Str} {ps : List Str} {sp : Sp} (F : Fx P w K mg base j x ps sp) (h : j ≤ k) : Fx P w K mg base k x ps sp := by
  obtain ⟨f, fd, h1, h2, h3, h4⟩ := F
  exact ⟨f, fd, h1, h2, h3, h4.mono h⟩
theorem Fx.imp {k : Nat} {x : Str} {ps : List Str} {sp sp' : Sp} (F : Fx P w K mg base k x ps sp) (h : ∀ vs H Q E, sp' vs H Q E → sp vs H Q E) : Fx P w K mg base k x ps sp' := by
  obtain ⟨f, fd, h1, h2, h3, h4⟩ := F
  exact ⟨f, fd, h1, h2, h3, h4.imp h⟩
/-- THE RULE: a def that raises nothing -/
theorem Fx.of {x : Str} {ps N : List Str} {st : Stmt} {k : Nat} (D : Dx K mg x ps st) (S : FnScope N ps (defScope st)) (hl : ∀ ds r, R ds r → ds.length = ps.length)
    (hb : ∀ (f : Addr) (cdv : Value) (A : Around) (outer : List Env) (s : Shared) (H : Hp) (E : XK), Room k (A.deeper (envOfC x (defScope st) s.heap.objs.size f cdv)) →
      ∃ t, PSs (cxOf (L2.CX P w) P w K mg base N x (defScope st) f cdv A outer s H E).nox (defBody st) t ∧ ∀ ds r, R ds r → Does P w K E t (ds.map Sl.d ++ List.replicate (N.length - ds.length) Sl.u) r) :
    Fx P w K mg base (k + 1) x ps (spR P w K R) := by
  obtain ⟨f, fd, h1, F, h3⟩ := D
  refine ⟨f, fd, h1, F.kp, h3, F.ok S (fun vs H Q E h => spR_len hl vs H Q E h) fun cdv A outer s H vs Q E hr h => ?_⟩
  obtain ⟨t, ht, hs⟩ := hb f cdv A outer s H E hr
  exact ⟨t, PSs.nox ht, run_r h hs⟩
/-- .. a def that may raise -/
theorem Fx.ofX {x : Str} {ps N : List Str} {st : Stmt} {k : Nat} (D : Dx K mg x ps st) (S : FnScope N ps (defScope st)) (hl : ∀ ds r, R ds r → ds.length = ps.length)
    (hb : ∀ (f : Addr) (cdv : Value) (A : Around) (outer : List Env) (s : Shared) (H : Hp) (E : XK), Room k (A.deeper (envOfC x (defScope st) s.heap.objs.size f cdv)) →
      Takes (cxOf (L2.CX P w) P w K mg base N x (defScope st) f cdv A outer s H E) (fun cls d _ H => E cls d H) →
      ∃ t, PSs (cxOf (L2.CX P w) P w K mg base N x (defScope st) f cdv A outer s H E) (defBody st) t ∧ ∀ ds r, R ds r → Does P w K E t (ds.map Sl.d ++ List.replicate (N.length - ds.length) Sl.u) r) :
    Fx P w K mg base (k + 1) x ps (spR P w K R) := by
  obtain ⟨f, fd, h1, F, h3⟩ := D
  refine ⟨f, fd, h1, F.kp, h3, F.ok S (fun vs H Q E h => spR_len hl vs H Q E h) fun cdv A outer s H vs Q E hr h => ?_⟩
  obtain ⟨t, ht, hs⟩ := hb f cdv A outer s H E hr (takes_of rfl rfl rfl rfl)
  exact ⟨t, ht, run_r h hs⟩
/-- .. any promise -/
theorem Fx.ofSp {x : Str} {ps N : List Str} {st : Stmt} {k : Nat} {sp : Sp} (D : Dx K mg x ps st) (S : FnScope N ps (defScope st)) (hl : ∀ vs H Q E, sp vs H Q E → vs.length = ps.length)
    (hb : ∀ (f : Addr) (cdv : Value) (A : Around) (outer : List Env) (s : Shared) (H : Hp) (E : XK), Room k (A.deeper (envOfC x (defScope st) s.heap.objs.size f cdv)) →
      ∃ t, PSs (cxOf (L2.CX P w) P w K mg base N x (defScope st) f cdv A outer s H E).nox (defBody st) t ∧ ∀ vs Q, sp vs H Q E → t { nx := fun _ H' => Q .non H', rt := Q } (L2.start N vs) H) :
    Fx P w K mg base (k + 1) x ps sp := by
  obtain ⟨f, fd, h1, F, h3⟩ := D
  refine ⟨f, fd, h1, F.kp, h3, F.ok S hl fun cdv A outer s H vs Q E hr h => ?_⟩
  obtain ⟨t, ht, hs⟩ := hb f cdv A outer s H E hr
  exact ⟨t, PSs.nox ht, hs vs Q h⟩
theorem Mx.of {C : Addr} {m q : Str} {ps N : List Str} {st : Stmt} {k : Nat} (D : Dm K C m q ps st) (S : FnScope N ps (defScope st)) (hl : ∀ ds r, R ds r → ds.length = ps.length)
    (hb : ∀ (f : Addr) (cdv : Value) (A : Around) (outer : List Env) (s : Shared) (H : Hp) (E : XK), Room k (A.deeper (envOfC q (defScope st) s.heap.objs.size f cdv)) →
      ∃ t, PSs (cxOf (L2.CX P w) P w K mg base N q (defScope st) f cdv A outer s H E).nox (defBody st) t ∧ ∀ ds r, R ds r → Does P w K E t (ds.map Sl.d ++ List.replicate (N.length - ds.length) Sl.u) r) :
    Mx P w K mg base (k + 1) C m ps (spR P w K R) := by
  obtain ⟨f, fd, h1, F, h3⟩ := D
  refine ⟨f, fd, h1, h3, F.ok S (fun vs H Q E h => spR_len hl vs H Q E h) fun cdv A outer s H vs Q E hr h => ?_⟩
  obtain ⟨t, ht, hs⟩ := hb f cdv A outer s H E hr
  exact ⟨t, PSs.nox ht, run_r h hs⟩
theorem Mx.mono {j k : Nat} {C : Addr} {m : Str} {ps : List Str} {sp : Sp} (F : Mx P w K mg base j C m ps sp) (h : j ≤ k) : Mx P w K mg base k C m ps sp := by
  obtain ⟨f, fd, h1, h3, h4⟩ := F
  exact ⟨f, fd, h1, h3, h4.mono h⟩
/-- the promise of an __init__: what it is given, the fields it stores (in their order), or what it raises -/
inductive Ri where
  | f (fs : List Str) (ds : List Dt) | x (x : Xn)
def spI (P : Program) (w : World) (K : PySem.W.Frag) (C : Addr) (R : List Dt → Ri → Prop) : Sp := fun vs H Q E => ∃ F p dx vs' ds r, vs = .ref p :: vs' ∧ Ex F H ∧ F p = none ∧ H p = some (.ins C dx []) ∧ RpL K F ds vs' ∧ R ds r ∧ (match r with
  | .f fs es => ∀ F' H' o, Ex F F' → Ex F' H' → (∀ a z, a ≠ p → H a = some z → H' a = some z) → (∀ a z, H a = some z → F a = none → F' a = none) → H' p = some o → OwOk P w K F' p (.ins C fs es) o → Q .non H'
  | .x y => ∀ od F' H', Ex F F' → Ex F' H' → (∀ a z, a ≠ p → H a = some z → H' a = some z) → (∀ a z, a ≠ p → H a = some z → F a = none → F' a = none) → XnOk K F' y od → E (.ref y.C) od H')
/-- H without p -/
def hide (H : Hp) (p : Addr) : Hp := fun a => if a = p then none else H a
theorem hide_same {H : Hp} {p : Addr} : hide H p p = none := if_pos rfl
theorem hide_ne {H : Hp} {p a : Addr} (h : a ≠ p) : hide H p a = H a := if_neg h
theorem hide_ex {H : Hp} {p : Addr} : Ex (hide H p) H := fun a u e => by
  by_cases z : a = p
  · subst z
    rw [hide_same] at e
    cases e
  · rwa [hide_ne z] at e
theorem ex_hide {F H : Hp} {p : Addr} (e : Ex F H) (h : F p = none) : Ex F (hide H p) := fun a u z => by
  rw [hide_ne (ne_of_none z h)]
  exact e a u z
/-- a body whose first slot is a thing of one's own at p -/
theorem Sm.startO {F H : Hp} {ds : List Dt} {vs : List V} {N : List Str} {p : Addr} {u : Ow} {o : HO} (e : Ex F H) (hF : F p = none) (hp : H p = some o) (ho : OwOk P w K F p u o) (r : RpL K F ds vs) :
    Sm P w K F (hide H p) F H (L2.start N (.ref p :: vs)) (Sl.ow (some p) u :: (ds.map Sl.d ++ List.replicate (N.length - (ds.length + 1)) Sl.u)) := by
  have hl := r.length
  have base : Sm P w K F (hide H p) F (hide H p) (List.map some vs ++ List.replicate (N.length - (ds.length + 1)) none) (ds.map Sl.d ++ List.replicate (N.length - (ds.length + 1)) Sl.u) := by
    refine ⟨ex_hide e hF, Wk.refl (ex_hide e hF), by simp [hl], fun i s h => ?_, fun i j t t' u u' q ne e1 e2 _ => ?_⟩
    · by_cases hi : i < ds.length
      · rw [List.getElem?_append_left (by simpa using hi), List.getElem?_map] at h
        cases q : ds[i]? with
        | none => rw [q] at h; cases h
        | some d =>
          rw [q] at h
          cases h
          obtain ⟨v, h1, h2⟩ := r.get q
          exact ⟨some v, by rw [List.getElem?_append_left (by simp; omega), List.getElem?_map, h1]; rfl, v, rfl, h2⟩
      · rw [List.getElem?_append_right (by simpa using hi), List.length_map, List.getElem?_replicate] at h
        split at h
        · rename_i lt
          cases h
          exact ⟨none, by rw [List.getElem?_append_right (by simp; omega), List.length_map, List.getElem?_replicate, if_pos (by omega)], rfl⟩
        · cases h
    · by_cases hi : i < ds.length
      · rw [List.getElem?_append_left (by simpa using hi), List.getElem?_map] at e1
        cases q : ds[i]? <;> rw [q] at e1 <;> cases e1
      · rw [List.getElem?_append_right (by simpa using hi), List.length_map, List.getElem?_replicate] at e1
        split at e1 <;> cases e1
  refine ⟨ex_hide e hF, ⟨Ex.refl F, hide_ex, e, fun _ _ _ h => h⟩, by simp [L2.start, hl], fun i s h => ?_, fun i j t t' u1 u2 q ne e1 e2 h1 h2 => ?_⟩
  · cases i with
    | zero =>
      cases h
      exact ⟨_, rfl, p, o, rfl, (fun q z => Option.some.inj z), hF, hide_same, hp, ho⟩
    | succ i =>
      obtain ⟨v, h1, h2⟩ := base.sl i s (by simpa using h)
      refine ⟨v, by simp only [L2.start, List.length_cons, List.map_cons, List.cons_append, List.getElem?_cons_succ]; rw [← hl]; exact h1, ?_⟩
      cases s with
      | x => trivial
      | u => exact h2
      | d d => exact h2
      | ex a od y => exact h2
      | ow t' u' =>
        exfalso
        by_cases hi : i < ds.length
        · rw [List.getElem?_cons_succ, List.getElem?_append_left (by simpa using hi), List.getElem?_map] at h
          cases q : ds[i]? <;> rw [q] at h <;> cases h
        · rw [List.getElem?_cons_succ, List.getElem?_append_right (by simpa using hi), List.length_map, List.getElem?_replicate] at h
          split at h <;> cases h
  · have no : ∀ (k : Nat) (t : Option Addr) (u' : Ow), (Sl.ow (some p) u :: (ds.map Sl.d ++ List.replicate (N.length - (ds.length + 1)) Sl.u))[k]? = some (.ow t u') → k = 0 := by
      intro k t u' h
      cases k with
      | zero => rfl
      | succ k =>
        exfalso
        by_cases hi : k < ds.length
        · rw [List.getElem?_cons_succ, List.getElem?_append_left (by simpa using hi), List.getElem?_map] at h
          cases q : ds[k]? <;> rw [q] at h <;> cases h
        · rw [List.getElem?_cons_succ, List.getElem?_append_right (by simpa using hi), List.length_map, List.getElem?_replicate] at h
          split at h <;> cases h
    exact ne ((no i _ _ e1).trans (no j _ _ e2).symm)
end
end Qw

set_option maxHeartbeats 1000000
/-! ### objects, their fields and methods; exceptions raised and caught; lists and sets of one's own -/
namespace Qw
open PySem PySem.Spec PyProof.Rows L2 Evl
open Pw (Dt Rp RpL Wk none_sub get_set set_same set_ne R2d R1d RLd RLn Kq KqL truD isEmpty_rp flatD fl py pyL rangeD rangeD_len charsD wl_at Wl wl_range rangeD_nat find_split itemD spX2 Xm Xm0 zip_lookup)
section
variable {P : Program} {w : World} {K : PySem.W.Frag} {mg : Str → Option Value} {base : Heap} {env env1 env2 : En} {ta tb te tv : TE} {tA t : TA} {d e : Dt} {ds es : List Dt} {C : Addr} {fs : List Str} {R : List Dt → Rs → Prop} {s : TS} {o : Out} {i : Nat} {t' : Option Addr}
/-! making an object -/
def DoesI (P : Program) (w : World) (K : PySem.W.Frag) (E : XK) (C p : Addr) (t : TS) (env : En) : Ri → Prop
  | .f fs es => ∃ e : En, e[0]? = some (.ow (some p) (.ins C fs es)) ∧ Se P w K t env (.nx e)
  | .x y => ∃ e, Se P w K t env (.rz (fun cls d _ H => E cls d H) y e)
theorem Ix.of {x q : Str} {ps N : List Str} {st : Stmt} {k : Nat} {Ri : List Dt → Ri → Prop} (D : Di K mg C x q ps st) (S : FnScope N ps (defScope st)) (hl : ∀ ds r, Ri ds r → ds.length + 1 = ps.length)
    (hb : ∀ (f : Addr) (cdv : Value) (A : Around) (outer : List Env) (s : Shared) (H : Hp) (E : XK), Room k (A.deeper (envOfC q (defScope st) s.heap.objs.size f cdv)) →
      Takes (cxOf (L2.CX P w) P w K mg base N q (defScope st) f cdv A outer s H E) (fun cls d _ H => E cls d H) →
      ∃ t, PSs (cxOf (L2.CX P w) P w K mg base N q (defScope st) f cdv A outer s H E) (defBody st) t ∧ ∀ p ds r, Ri ds r → DoesI P w K E C p t (Sl.ow (some p) (.ins C [] []) :: (ds.map Sl.d ++ List.replicate (N.length - (ds.length + 1)) Sl.u)) r) :
    Ix P w K mg base (k + 1) C x ps (spI P w K C Ri) := by
  obtain ⟨f, fd, h1, hm, F, h3⟩ := D
  refine ⟨f, fd, h1, hm, h3, F.ok S (fun vs H Q E h => ?_) fun cdv A outer s H vs Q E hr h => ?_⟩
  · obtain ⟨F, p, dx, vs', ds, r, rfl, _, _, _, rp, hR, _⟩ := h
    have := hl ds r hR
    rw [List.length_cons, ← rp.length]
    exact this
  · obtain ⟨t, ht, hs⟩ := hb f cdv A outer s H E hr (takes_of rfl rfl rfl rfl)
    refine ⟨t, ht, ?_⟩
    obtain ⟨F, p, dx, vs', ds, r, rfl, ex, nF, hp, rp, hR, q⟩ := h
    have hs' := hs p ds r hR
    have S0 := Sm.startO (P := P) (w := w) (N := N) (u := .ins C [] []) ex nF hp ⟨dx, [], rfl, rfl, rfl⟩ rp
    cases r with
    | f fs es =>
      obtain ⟨e1, he, hse⟩ := hs'
      refine hse F (hide H p) F H _ _ S0 fun F' H' σ' e2 S' => ?_
      obtain ⟨p', o', g1, g2, g3, g4, g5, g6⟩ := S'.own he
      obtain rfl := g2 p rfl
      exact q F' H' o' e2 S'.sub (fun a z ne hz => S'.g.h a z (by rw [hide_ne ne]; exact hz)) (fun a z hz hn => by
        by_cases e : a = p'
        · subst e
          exact g3
        · exact S'.g.n a z (by rw [hide_ne e]; exact hz) hn) g5 g6
    | x y =>
      obtain ⟨e1, hse⟩ := hs'
      exact hse F (hide H p) F H _ _ S0 fun od F' H' σ' e2 S' hx => q od F' H' e2 S'.sub (fun a z ne hz => S'.g.h a z (by rw [hide_ne ne]; exact hz)) (fun a z ne hz => S'.g.n a z (by rw [hide_ne ne]; exact hz)) hx
theorem po_make {E : XK} {Rc : List Dt → Ri → Prop} (h : EpA P w K tA env ds) (hR : Rc ds (.f fs es)) : EpO P w K (tMake C (spI P w K C Rc) [] E tA) env (.ins C fs es) := fun F0 H0 F H σ S Q q =>
  h F0 H0 F H σ S _ fun vs F1 H1 k1 r1 x dx hx hdx ne => by
    have n1 : F1 x = none := none_sub k1.s hx
    refine ⟨F1, x, dx, vs, ds, .f fs es, by rw [List.append_nil], fun a u z => ?_, n1, upd_same, r1, hR, fun F2 H2 o2 f2 s2 k2 n2 h2 r2 => ⟨rfl, q x o2 F2 H2 ⟨k1.f.trans f2, fun a u z => ?_, s2, fun a u z n => ?_⟩ (none_sub k1.h hx) ?_ h2 r2⟩⟩
    · rw [upd_ne (ne_of_none z n1), upd_ne (ne_of_none z (none_sub k1.s hdx))]
      exact k1.s a u z
    · have z1 := k1.h a u z
      refine k2 a u (ne_of_none z1 hx) ?_
      rw [upd_ne (ne_of_none z1 hx), upd_ne (ne_of_none z1 hdx)]
      exact z1
    · have z1 := k1.h a u z
      refine n2 a u ?_ (k1.n a u z n)
      rw [upd_ne (ne_of_none z1 hx), upd_ne (ne_of_none z1 hdx)]
      exact z1
    · exact n2 x _ upd_same n1
def tMakeS (C : Addr) (sp : Sp) (E : L2.St → XK) (t : TA) : TE := fun σ H Q => t σ H fun vs H1 => ∀ x dx, H1 x = none → H1 dx = none → dx ≠ x →
  sp (.ref x :: vs) (L2.upd (L2.upd H1 dx (.own x)) x (.ins C dx [])) (fun v H2 => v = .non ∧ Q (.ref x) H2) (E σ)
theorem po_makeS {E : L2.St → XK} {Rc : List Dt → Ri → Prop} (h : EpA P w K tA env ds) (hR : Rc ds (.f fs es)) : EpO P w K (tMakeS C (spI P w K C Rc) E tA) env (.ins C fs es) := fun F0 H0 F H σ S Q q => by
  have := po_make (E := E σ) (C := C) h hR F0 H0 F H σ S Q q
  unfold tMake at this
  simp only [List.append_nil] at this
  exact this
theorem er_makeS {W : WX} {Rc : List Dt → Ri → Prop} {x : Xn} (h : EpA P w K tA env ds) (hR : Rc ds (.x x)) : Er P w K W (tMakeS C (spI P w K C Rc) (WE W) tA) env x env := fun F0 H0 F H σ S Q q =>
  h F0 H0 F H σ S _ fun vs F1 H1 k1 r1 y dx hy hdx ne => by
    have n1 : F1 y = none := none_sub k1.s hy
    have S1 := S.wk k1
    have up : ∀ a u, H1 a = some u → L2.upd (L2.upd H1 dx (.own y)) y (.ins C dx []) a = some u := fun a u z => by
      rw [upd_ne (ne_of_none z hy), upd_ne (ne_of_none z hdx)]
      exact z
    exact ⟨F1, y, dx, vs, ds, .x x, rfl, fun a u z => up a u (k1.s a u z), n1, upd_same, r1, hR, fun od F2 H2 f2 s2 k2 n2 hx =>
      q od F2 H2 (k1.f.trans f2) (S1.wk ⟨f2, fun a u z => k2 a u (ne_of_none z hy) (up a u z), s2, fun a u z n => n2 a u (ne_of_none z hy) (up a u z) n⟩) hx⟩
/-! fields and methods -/
theorem ep_fld {n : Str} (c : Cls K C) (hn : NoAttr K C n) (h : Ep P w K ta env (.obj C fs ds)) (hl : (fs.zip ds).lookup n = some d) : Ep P w K (tFld K ta n) env d := fun F0 H0 F H σ S Q q =>
  h F0 H0 F H σ S _ fun v F1 H1 k1 r => by
    obtain ⟨a, dx, vs, rfl, h1, h2, h3⟩ := r
    obtain ⟨u, l1, l2⟩ := zip_lookup h3 hl
    exact ⟨a, C, dx, _, u, rfl, k1.s a _ h1, c, hn, l1, q u F1 H1 k1 l2⟩
theorem ep_fldO {n : Str} (c : Cls K C) (hn : NoAttr K C n) (hi : env[i]? = some (.ow t' (.ins C fs ds))) (hl : (fs.zip ds).lookup n = some d) : Ep P w K (tFld K (tVar i) n) env d := fun F0 H0 F H σ S Q q => by
  obtain ⟨a, ho, e1, _, g1, g2, g3, dx, vs, rfl, h2, h3⟩ := S.own hi
  obtain ⟨u, l1, l2⟩ := zip_lookup h3 hl
  exact ⟨_, e1, a, C, dx, _, u, rfl, g3, c, hn, l1, q u F H (Wk.refl S.sub) l2⟩
theorem putF_new {f : Str} {v : V} : ∀ {fs : List Str} {vs : List V}, fs.length = vs.length → fs.contains f = false → putF f v (fs.zip vs) = (fs ++ [f]).zip (vs ++ [v])
  | [], [], _, _ => rfl
  | g :: fs, u :: vs, h, hc => by
    rw [List.contains_cons, Bool.or_eq_false_iff] at hc
    have ne : ¬ g = f := fun e => by simp [e] at hc
    show (if g = f then _ else (g, u) :: putF f v (fs.zip vs)) = _
    rw [if_neg ne, putF_new (by simpa using h) hc.2]
    rfl
theorem putF_old {f : Str} {v : V} : ∀ {fs : List Str} {vs : List V} {k : Nat}, fs.length = vs.length → fs[k]? = some f → (∀ j, j < k → fs[j]? ≠ some f) → putF f v (fs.zip vs) = fs.zip (vs.set k v)
  | [], _, k, _, h, _ => by simp at h
  | g :: fs, [], k, h, _, _ => by simp at h
  | g :: fs, u :: vs, 0, h, e, _ => by
    simp at e
    show (if g = f then _ else _) = _
    rw [if_pos e]
    rfl
  | g :: fs, u :: vs, k + 1, h, e, n => by
    have ne : ¬ g = f := fun z => n 0 (Nat.zero_lt_succ _) (by simp [z])
    show (if g = f then _ else (g, u) :: putF f v (fs.zip vs)) = _
    rw [if_neg ne, putF_old (k := k) (by simpa using h) (by simpa using e) fun j hj z => n (j + 1) (by omega) (by simpa using z)]
    rfl
theorem se_fldN {n : Str} (c : Cls K C) (hn : NoAttr K C n) (hv : Ee P w K tv env d env1) (hi : env1[i]? = some (.ow t' (.ins C fs ds)) := by rfl) (hc : fs.contains n = false := by decide +kernel) (hz : fs.length < 900 := by exact Nat.lt_of_lt_of_le (Nat.lt_succ_self _) (Nat.le_of_ble_eq_true rfl)) :
    Se P w K (sFld K (tVar i) tv n) env (.nx (env1.set i (.ow t' (.ins C (fs ++ [n]) (ds ++ [d]))))) := fun F0 H0 F H σ D S p =>
  hv.2 F0 H0 F H σ S _ fun v F1 H1 k1 S1 r => by
    obtain ⟨a, ho, e1, _, g1, g2, g3, dx, vs, rfl, h2, h3⟩ := S1.own hi
    refine ⟨_, e1, a, C, dx, _, rfl, g3, c, hn, by rw [List.length_zip, ← h2]; omega, ?_⟩
    rw [putF_new h2 hc]
    exact p F1 _ σ k1.f (S1.mut hi e1 ⟨dx, vs ++ [v], rfl, by simp [h2], RpL.append h3 (RpL.cons r RpL.nil)⟩)
theorem se_fldS {n : Str} {k : Nat} (c : Cls K C) (hn : NoAttr K C n) (hv : Ee P w K tv env d env1) (hi : env1[i]? = some (.ow t' (.ins C fs ds)) := by rfl) (hk : fs[k]? = some n := by rfl) (hf : ∀ j, j < k → fs[j]? ≠ some n := by decide +kernel) (hz : fs.length < 900) :
    Se P w K (sFld K (tVar i) tv n) env (.nx (env1.set i (.ow t' (.ins C fs (ds.set k d))))) := fun F0 H0 F H σ D S p =>
  hv.2 F0 H0 F H σ S _ fun v F1 H1 k1 S1 r => by
    obtain ⟨a, ho, e1, _, g1, g2, g3, dx, vs, rfl, h2, h3⟩ := S1.own hi
    refine ⟨_, e1, a, C, dx, _, rfl, g3, c, hn, by rw [List.length_zip, ← h2]; omega, ?_⟩
    rw [putF_old h2 hk hf]
    exact p F1 _ σ k1.f (S1.mut hi e1 ⟨dx, vs.set k v, rfl, by simp [h2], RpL.set k h3 r⟩)
theorem zip_none {n : Str} : ∀ {fs : List Str} {vs : List V}, fs.contains n = false → (fs.zip vs).lookup n = none
  | [], _, _ => by simp
  | g :: fs, [], _ => by simp
  | g :: fs, u :: vs, h => by
    rw [List.contains_cons, Bool.or_eq_false_iff] at h
    rw [List.zip_cons_cons, List.lookup_cons, h.1]
    exact zip_none h.2
theorem ep_meth {E : XK} {m : Str} (h : Ep P w K ta env (.obj C fs ds)) (hA : EpA P w K t env es) (hf : R (.obj C fs ds :: es) (.d d)) (hm : fs.contains m = false := by decide +kernel) : Ep P w K (tMeth C m (spR P w K R) [] E ta t) env d := fun F0 H0 F H σ S Q q =>
  h F0 H0 F H σ S _ fun v F1 H1 k1 r => by
    have r' := r
    obtain ⟨a, dx, vs, rfl, h1, h2, h3⟩ := r
    exact ⟨a, dx, _, rfl, k1.s a _ h1, zip_none hm, hA F0 H0 F1 H1 σ (S.wk k1) _ fun us F2 H2 k2 r2 => ⟨F2, _, .d d, k2.s, by rw [List.append_nil]; exact ⟨_, _, rfl, r'.mono k2.f, r2⟩, hf, fun v F3 H3 k3 r3 => q v F3 H3 ((k1.trans k2).trans k3) r3⟩⟩
theorem po_meth {E : XK} {m : Str} {u : Ow} (h : Ep P w K ta env (.obj C fs ds)) (hA : EpA P w K t env es) (hf : R (.obj C fs ds :: es) (.o u)) (hm : fs.contains m = false := by decide +kernel) : EpO P w K (tMeth C m (spR P w K R) [] E ta t) env u := fun F0 H0 F H σ S Q q =>
  h F0 H0 F H σ S _ fun v F1 H1 k1 r => by
    have r' := r
    obtain ⟨a, dx, vs, rfl, h1, h2, h3⟩ := r
    exact ⟨a, dx, _, rfl, k1.s a _ h1, zip_none hm, hA F0 H0 F1 H1 σ (S.wk k1) _ fun us F2 H2 k2 r2 => ⟨F2, _, .o u, k2.s, by rw [List.append_nil]; exact ⟨_, _, rfl, r'.mono k2.f, r2⟩, hf, fun p o F3 H3 k3 n1 n2 h3 r3 => q p o F3 H3 ((k1.trans k2).trans k3) (none_sub (k1.trans k2).h n1) n2 h3 r3⟩⟩
theorem RpL.flatAll {F F' : Hp} : ∀ {ds : List Dt} {vs : List V}, RpL K F ds vs → ds.all flatD = true → RpL K F' ds vs
  | [], _, h, _ => h
  | d :: ds, vs, h, f => by
    obtain ⟨v, r, rfl, q, s⟩ := h
    rw [List.all_cons, Bool.and_eq_true] at f
    exact ⟨v, r, rfl, q.flat f.1, RpL.flatAll s f.2⟩
/-- self.m() of an object that is being made: it is lent -/
theorem po_methL {E : XK} {m : Str} {zs : List Dt} (hi : env[i]? = some (.ow t' (.ins C fs ds))) (hf : R [.obj C fs ds] (.o (.lst zs))) (hz : zs.all flatD = true) (hm : fs.contains m = false := by decide +kernel) : EpO P w K (tMeth C m (spR P w K R) [] E (tVar i) tNil) env (.lst zs) := fun F0 H0 F H σ S Q q => by
  obtain ⟨a, ho, e1, _, g1, g2, g3, g4⟩ := S.own hi
  have g4' := g4
  obtain ⟨dx, vs, rfl, h2, h3⟩ := g4
  have ex : Ex (L2.upd F a (.ins C dx (fs.zip vs))) H := fun b u z => by
    by_cases e : b = a
    · subst e
      rw [upd_same] at z
      rw [g3, ← z]
    · rw [upd_ne e] at z
      exact S.sub b u z
  refine ⟨_, e1, a, dx, _, rfl, g3, zip_none hm, L2.upd F a (.ins C dx (fs.zip vs)), [.obj C fs ds], .o (.lst zs), ex, ?_, hf, fun p o F3 H3 k3 n1 n2 h3 r3 => ?_⟩
  · exact ⟨_, [], rfl, (g4'.mono (Ex.new g1)).rp rfl upd_same, rfl⟩
  · obtain ⟨us, rfl, r4⟩ := r3
    exact q p _ F H3 ⟨Ex.refl F, k3.h, S.sub.trans k3.h, fun _ _ _ n => n⟩ n1 (none_sub S.sub n1) h3 ⟨us, rfl, RpL.flatAll r4 hz⟩
/-! exceptions -/
theorem se_raise2 {W : WX} {f1 f2 : Str} (h : EpA P w K tA env [d, e]) : Se P w K (fun _ σ H => tMkO C (spX2 C f1 f2) [] tA σ H fun cls d H' => W cls d σ H') env (.rz W ⟨C, [f2, f1], [e, d]⟩ env) := fun F0 H0 F H σ D S p =>
  h F0 H0 F H σ S _ fun vs F1 H1 k1 r => by
    obtain ⟨v1, r1, rfl, q1, v2, r2, rfl, q2, e3⟩ := r
    cases e3
    refine ⟨by show 2 ≤ 1000; decide, fun a ha => ⟨a, v1, v2, rfl, upd_same, fun dx H' hx ne h1 h2 hk => ⟨rfl, dx, _, h1, h2, ?_, ?_⟩⟩⟩
    · rw [upd_ne ne] at hx
      exact hx
    · have hx1 : H1 dx = none := by
        rw [upd_ne ne] at hx
        exact hx
      have S1 := S.wk k1
      have kk : Wk F1 H1 (L2.upd F1 dx (.xd [(f2, v2), (f1, v1)])) (L2.upd (del H' a) dx (.xd [(f2, v2), (f1, v1)])) := by
        refine ⟨Ex.new (none_sub k1.s hx1), fun b u z => ?_, fun b u z => ?_, fun b u z n => ?_⟩
        · have nb := ne_of_none z hx1
          have na := ne_of_none z ha
          rw [upd_ne nb, del_ne na, hk b na nb, upd_ne na]
          exact z
        · by_cases e : b = dx
          · subst e
            rw [upd_same] at z ⊢
            exact z
          · rw [upd_ne e] at z
            have zH := k1.s b u z
            have na := ne_of_none zH ha
            rw [upd_ne e, del_ne na, hk b na e, upd_ne na]
            exact zH
        · rw [upd_ne (ne_of_none z hx1)]
          exact n
      refine p (some dx) _ _ σ (k1.f.trans kk.f) (S1.wk kk) (.inr ⟨dx, [v2, v1], rfl, rfl, ⟨v2, [v1], rfl, q2.mono kk.f, v1, [], rfl, q1.mono kk.f, rfl⟩, ?_⟩)
      exact upd_same
theorem se_raise0 {W : WX} : Se P w K (fun _ σ H => (fun (_ : L2.St) (H : Hp) (Q : XK) => Q (.ref C) none H) σ H fun cls d H' => W cls d σ H') env (.rz W ⟨C, [], []⟩ env) := fun F0 H0 F H σ D S p => p none F H σ (Ex.refl F) S (.inl ⟨rfl, rfl⟩)
/-- what a statement does that does not depend on the wish: nothing is raised -/
theorem se_try (tb : WX → TS) {f : Ends → WX} (h : ∀ W, Se P w K (tb W) env o) (hf : ∀ W x e, o ≠ .rz W x e := by intro _ _ _ z; cases z) : Se P w K (fun D σ H => tb (f D) D σ H) env o := fun F0 H0 F H σ D S p => h (f D) F0 H0 F H σ D S p
/-- try: .. except c as n: suite, something of the class c raised -/
theorem se_try_as {tb : WX → TS} {ts : Addr → Value → Option Addr → TS} {c : Value} {Wout : WX} {x : Xn} {e1 e2 : En} {n : Nat} (h : ∀ W, Se P w K (tb W) env (.rz W x e1)) (hm : PySem.W.exmOne K (.ref x.C) c = some true)
    (hs : ∀ a od, Se P w K (ts a (.ref x.C) od) (e1.set n (.ex a od x)) o) (ho : (∃ d, o = .rt d) ∨ (∃ e, o = .nx e) ∨ ∃ u, o = .ro u) (hn : n < e1.length) :
    Se P w K (fun D σ H => tb (wAs K c n ts Wout D) D σ H) env (match o with | .nx e => .nx (e.set n .u) | o => o) := fun F0 H0 F H σ D S p => by
  refine h _ F0 H0 F H σ D S fun od F1 H1 σ1 ex S1 hx => ?_
  refine ⟨true, hm, fun _ a ha => ?_, fun z => nomatch z⟩
  have S2 : Sm P w K F0 H0 F1 H1 (σ1.set n (some (.ref a))) (e1.set n (.ex a od x)) := by
    refine ⟨S1.e0, S1.g, by simp [S1.len], fun j s e => ?_, fun b c t1 t2 u1 u2 p ne e1 e2 h => ?_⟩
    · rcases get_set e with ⟨rfl, rfl, l⟩ | ⟨ne, e⟩
      · exact ⟨_, set_same (by rw [S1.len]; exact l), rfl, hx⟩
      · rw [set_ne ne]
        exact S1.sl j s e
    · rcases get_set e1 with ⟨_, z, _⟩ | ⟨n1, e1⟩
      · cases z
      · rcases get_set e2 with ⟨_, z, _⟩ | ⟨n2, e2⟩
        · cases z
        · rw [set_ne n1] at h
          rw [set_ne n2]
          exact S1.df b c t1 t2 u1 u2 p ne e1 e2 h
  refine hs a od F0 H0 F1 H1 _ _ S2 ?_
  rcases ho with ⟨d, rfl⟩ | ⟨e, rfl⟩ | ⟨u, rfl⟩
  · exact p
  · exact fun F3 H3 σ3 e3 S3 => p F3 H3 _ (ex.trans e3) (S3.setU n)
  · exact p
theorem se_try_only {tb : WX → TS} {ts : Addr → Value → Option Addr → TS} {c : Value} {Wout : WX} {x : Xn} {e1 : En} (h : ∀ W, Se P w K (tb W) env (.rz W x e1)) (hm : PySem.W.exmOne K (.ref x.C) c = some true)
    (hs : ∀ a od, Se P w K (ts a (.ref x.C) od) e1 o) (ho : ∀ W x e, o ≠ .rz W x e := by intro _ _ _ z; cases z) :
    Se P w K (fun D σ H => tb (wOnly K c ts Wout D) D σ H) env o := fun F0 H0 F H σ D S p => by
  refine h _ F0 H0 F H σ D S fun od F1 H1 σ1 ex S1 hx => ?_
  exact ⟨true, hm, fun _ a ha => hs a od F0 H0 F1 H1 σ1 D S1 (p.ex ex), fun z => nomatch z⟩
/-- e.f in the suite -/
theorem ep_xf {a : Addr} {od : Option Addr} {x : Xn} {n f0 : Str} {fr : List Str} (hi : env[i]? = some (.ex a od x)) (hx : x.fs = f0 :: fr := by rfl) (hl : (x.fs.zip x.ds).lookup n = some d) : Ep P w K (tXf a (.ref x.C) od x.C n (tVar i)) env d := fun F0 H0 F H σ S Q q => by
  obtain ⟨v, h1, rfl, hk⟩ := S.sl i _ hi
  rcases hk with ⟨z, _⟩ | ⟨dx, vs, rfl, h2, h3, h4⟩
  · rw [hx] at z
    cases z
  · obtain ⟨u, l1, l2⟩ := zip_lookup h3 hl
    exact ⟨_, h1, rfl, rfl, dx, _, u, rfl, S.sub dx _ h4, l1, q u F H (Wk.refl S.sub) l2⟩
/-! lists of one's own, read -/
theorem ep_lenO {xs : List Dt} (hi : env[i]? = some (.ow t' (.lst xs)) := by rfl) : Ep P w K (tCB (rLenS K) (tCons (tVar i) tNil)) env (.int xs.length) := fun F0 H0 F H σ S Q q => by
  obtain ⟨a, ho, e1, _, g1, g2, g3, vs, rfl, h3⟩ := S.own hi
  refine ⟨_, e1, a, vs, rfl, .inl (SqL.of g3), ?_⟩
  rw [← h3.length]
  exact q _ F H (Wk.refl S.sub) rfl
theorem ee_ixO {xs : List Dt} {k : Int} {j : Nat} {tk : TE} {u1 : Ow} (hi : env[i]? = some (.ow t' u1) := by rfl) (hk : Ee P w K tk env (.int k) env1) (hi1 : env1[i]? = some (.ow t' (.lst xs)) := by rfl) (hj : ixN xs.length k = some j) (h : xs[j]? = some d) : Ee P w K (tOp (rIxL K) (tVar i) tk) env d env1 := ⟨hk.1, fun F0 H0 F H σ S Q q => by
  obtain ⟨a, ho, e1, _, _⟩ := S.own hi
  refine ⟨_, e1, hk.2 F0 H0 F H σ S _ fun kv F1 H1 k1 S1 r1 => ?_⟩
  obtain ⟨b, ho', e2, _, g1, g2, g3, vs, rfl, h3⟩ := S1.own hi1
  rw [e1] at e2
  cases e2
  obtain ⟨v, h4, h5⟩ := h3.get h
  exact ⟨a, vs, k, v, rfl, r1, SqL.of g3, by unfold atI; rw [← h3.length, hj]; exact h4, q v F1 H1 k1 S1 h5⟩⟩
theorem ep_ixO {xs : List Dt} {k : Int} {j : Nat} {tk : TE} (hi : env[i]? = some (.ow t' (.lst xs)) := by rfl) (hk : Ep P w K tk env (.int k)) (hj : ixN xs.length k = some j) (h : xs[j]? = some d) : Ep P w K (tOp (rIxL K) (tVar i) tk) env d := fun F0 H0 F H σ S Q q => by
  obtain ⟨a, ho, e1, _, g1, g2, g3, vs, rfl, h3⟩ := S.own hi
  refine ⟨_, e1, hk F0 H0 F H σ S _ fun kv F1 H1 k1 r1 => ?_⟩
  obtain ⟨v, h4, h5⟩ := h3.get h
  exact ⟨a, vs, k, v, rfl, r1, SqL.of (k1.h a _ g3), by unfold atI; rw [← h3.length, hj]; exact h4, q v F1 H1 k1 (h5.mono k1.f)⟩
theorem tp_truO {xs : List Dt} (hi : env[i]? = some (.ow t' (.lst xs)) := by rfl) : Tp P w K (fun σ H Q => tVar i σ H fun x H' => ∃ k, TruV K x H' k ∧ Q k H') env (!xs.isEmpty) := fun F0 H0 F H σ S Q q => by
  obtain ⟨a, ho, e1, _, g1, g2, g3, vs, rfl, h3⟩ := S.own hi
  exact ⟨_, e1, !xs.isEmpty, .inl ⟨vs, SqL.of g3, isEmpty_rp h3⟩, q F H (Wk.refl S.sub)⟩
theorem ee_popO {xs : List Dt} (hi : env[i]? = some (.ow t' (.lst (xs ++ [d]))) := by rfl) : Ee P w K (tBM0 K "list" rPop (tVar i)) env d (env.set i (.ow t' (.lst xs))) := ⟨Sh.set hi, fun F0 H0 F H σ S Q q => by
  obtain ⟨a, ho, e1, _, g1, g2, g3, vs, rfl, h3⟩ := S.own hi
  have hl := h3.length
  simp at hl
  obtain ⟨v, h4, h5⟩ := h3.get (i := xs.length) (d := d) (by simp)
  refine ⟨_, e1, .inl ⟨rfl, vs, sq_of g3⟩, a, vs, v, rfl, rfl, g3, by rw [show vs.length - 1 = xs.length by omega]; exact h4, ?_⟩
  refine q v F _ (Wo.mut S hi e1) (S.mut hi e1 ⟨_, rfl, ?_⟩) h5
  have := h3.take xs.length
  rw [List.take_left' rfl] at this
  rw [List.dropLast_eq_take, show vs.length - 1 = xs.length by omega]
  exact this⟩
/-! sets of one's own -/
theorem po_set0 : EpO P w K (tCB (rSet0K P w) tNil) env (.set (fun _ => false) 0) := fun F0 H0 F H σ S Q q => ⟨rfl, fun p hp => q p _ F _ (Wk.own S.sub _ hp) hp (none_sub S.sub hp) upd_same ⟨0, Nat.le_refl _, rfl⟩⟩
theorem keys_of {F : Hp} : ∀ {ks : List Key} {vs : List V}, RpL K F (ks.map kD) vs → vs = ks.map kV
  | [], _, h => h
  | k :: ks, _, h => by
    obtain ⟨v, r, rfl, q, s⟩ := h
    rw [kD_rp q, keys_of s]
    rfl
theorem po_setL {ks : List Key} (h : EpA P w K tA env [.lst (ks.map kD)]) (hn : ks.length ≤ 4000) : EpO P w K (tCB (Qs.rSetL K P w) tA) env (.set (Qs.memK ks) ks.length) := fun F0 H0 F H σ S Q q =>
  h F0 H0 F H σ S _ fun vs F1 H1 k1 r => by
    obtain ⟨v, r1, rfl, ⟨a, us, rfl, h1, h2⟩, e⟩ := r
    cases e
    cases keys_of h2
    exact ⟨a, ks, rfl, ex_l k1.s h1, hn, fun p m hm hp => q p _ F1 _ (k1.trans (Wk.own k1.s _ hp)) (none_sub k1.h hp) (none_sub k1.s hp) upd_same ⟨m, hm, rfl⟩⟩
theorem ep_inS {k : Key} {S0 : Key → Bool} {m : Nat} (neg : Bool) (hk : Ep P w K te env (kD k)) (hi : env[i]? = some (.ow t' (.set S0 m)) := by rfl) : Ep P w K (tOp (rSInK P w neg) te (tVar i)) env (.bl (if neg then !S0 k else S0 k)) := fun F0 H0 F H σ S Q q =>
  hk F0 H0 F H σ S _ fun y F1 H1 k1 r1 => by
    obtain ⟨a, ho, e1, _, g1, g2, g3, c, hc, rfl⟩ := (S.wk k1).own hi
    rw [kD_rp r1]
    exact ⟨_, e1, k, a, S0, c, rfl, rfl, g3, q _ F1 H1 k1 rfl⟩
theorem se_addS {k : Key} {S0 : Key → Bool} {m : Nat} (hk : Ep P w K te env (kD k)) (hi : env[i]? = some (.ow t' (.set S0 m)) := by rfl) (hm : m < 4000) : Se P w K (tDrop (tSAddK P w (tVar i) (tCons te tNil))) env (.nx (env.set i (.ow t' (.set (fun j => S0 j || decide (j = k)) (m + 1))))) := fun F0 H0 F H σ D S p => by
  obtain ⟨a, ho, e1, _, g1, g2, g3, c, hc, rfl⟩ := S.own hi
  refine ⟨_, e1, ⟨a, S0, c, rfl, g3⟩, hk F0 H0 F H σ S _ fun y F1 H1 k1 r1 => ?_⟩
  rw [kD_rp r1]
  refine ⟨a, k, S0, c, rfl, rfl, k1.h a _ g3, by unfold scanBound; omega, ?_⟩
  exact p F1 _ σ k1.f ((S.wk k1).mut hi e1 ⟨_, by split <;> omega, rfl⟩)
end
end Qw

set_option maxHeartbeats 1000000
/-! ### rules: calls by name -/
namespace Qw
open PySem PySem.Spec PyProof.Rows L2 Evl
open Pw (spX2 Xm Xm0)
section
variable {X : Cx} {x m : Str} {C : Addr} {ps : List Str} {sp : Sp} {k : Nat} {e o : Expr} {es : List Expr} {t : TA} {ta : TE} {p pos apos : Pos} {W : WX}
theorem pe_fx (F : Fx X.prog X.w X.K X.mg X.base k x ps sp) (hr : Room k X.A) (ha : PA X (e :: es) t) (hg : Gl X x := by rfl)
    (hdb : (x == ("__debug__" : Str)) = false := by decide) (he : starEach (e :: es) X.env = (false, eval e X.env) :: starEach es X.env := by rfl) (hpl : (backTo pos (starEach es X.env)).any (·.1) = false := by rfl) :
    PE X (.Call (.Name x p) (e :: es) [] pos) (tCall sp [] E0 t) := by
  obtain ⟨f, fd, h1, h2, h3, h4⟩ := F
  exact pe_call h4 hr hg h1 h2 h3 .nil passL ha hdb he hpl
theorem pe_fx0 (F : Fx X.prog X.w X.K X.mg X.base k x ps sp) (hr : Room k X.A) (hg : Gl X x := by rfl) (hdb : (x == ("__debug__" : Str)) = false := by decide) : PE X (.Call (.Name x p) [] [] pos) (tCall sp [] E0 tNil) := by
  obtain ⟨f, fd, h1, h2, h3, h4⟩ := F
  exact pe_call0 h4 hr hg h1 h2 h3 .nil passL hdb
theorem pe_fxS (F : Fx X.prog X.w X.K X.mg X.base k x ps sp) (hr : Room k X.A) (tk : Takes X W) (ha : PA X (e :: es) t) (hg : Gl X x := by rfl)
    (hdb : (x == ("__debug__" : Str)) = false := by decide) (he : starEach (e :: es) X.env = (false, eval e X.env) :: starEach es X.env := by rfl) (hpl : (backTo pos (starEach es X.env)).any (·.1) = false := by rfl) :
    PE X (.Call (.Name x p) (e :: es) [] pos) (tCallS sp (WE W) t) := by
  obtain ⟨f, fd, h1, h2, h3, h4⟩ := F
  exact pe_callS h4 hr hg h1 h2 h3 (fun σ => passAt tk σ) ha hdb he hpl
theorem pe_mx {pl : Sem Bool} (F : Mx X.prog X.w X.K X.mg X.base k C m ps sp) (c : Cls X.K C) (hr : Room k X.A) (ho : PE X o ta) (ha : PA X (e :: es) t)
    (hst : starEach (e :: es) X.env = (false, eval e X.env) :: starEach es X.env := by rfl) (hpl : (backTo pos (starEach es X.env)).any (·.1) = false := by rfl)
    (ht : eval (.Call (.Attribute o m apos) (e :: es) [] pos) X.env = (do
      let ov ← eval o X.env
      standAt apos.atName
      let (f, first) ← holding [ov] (getMethod ov m pl)
      callWith pos f first (backTo pos (starEach (e :: es) X.env)) (backToKw pos (keywordEach [] X.env))) := by rfl) :
    PE X (.Call (.Attribute o m apos) (e :: es) [] pos) (tMeth C m sp [] E0 ta t) := by
  obtain ⟨f, fd, h1, h3, h4⟩ := F
  exact pe_meth ho c h1 h4 hr h3 .nil passL ha hst hpl ht
theorem pe_mx0 {pl : Sem Bool} (F : Mx X.prog X.w X.K X.mg X.base k C m ps sp) (c : Cls X.K C) (hr : Room k X.A) (ho : PE X o ta)
    (ht : eval (.Call (.Attribute o m apos) [] [] pos) X.env = (do
      let ov ← eval o X.env
      standAt apos.atName
      let (f, first) ← holding [ov] (getMethod ov m pl)
      callWith pos f first (backTo pos (starEach [] X.env)) (backToKw pos (keywordEach [] X.env))) := by rfl) :
    PE X (.Call (.Attribute o m apos) [] [] pos) (tMeth C m sp [] E0 ta tNil) := by
  obtain ⟨f, fd, h1, h3, h4⟩ := F
  exact pe_meth0 ho c h1 h4 hr h3 .nil passL ht
theorem pe_ix2 (F : Ix X.prog X.w X.K X.mg X.base k C x ps sp) (hr : Room (k + 1) X.A) (ha : PA X (e :: es) t) (hg : Gl X x := by rfl)
    (hdb : (x == ("__debug__" : Str)) = false := by decide) (he : starEach (e :: es) X.env = (false, eval e X.env) :: starEach es X.env := by rfl) (hpl : (backTo pos (starEach es X.env)).any (·.1) = false := by rfl) :
    PE X (.Call (.Name x p) (e :: es) [] pos) (tMake C sp [] E0 t) := by
  obtain ⟨f, fd, h1, hm, h3, h4⟩ := F
  exact pe_make hm h4 hr hg h1 h3 .nil passL ha hdb he hpl
/-- C(..), what its __init__ lets out wished for at the slots -/
theorem pe_ixS (F : Ix X.prog X.w X.K X.mg X.base k C x ps sp) (hr : Room (k + 1) X.A) (tk : Takes X W) (ha : PA X (e :: es) t) (hg : Gl X x := by rfl)
    (hdb : (x == ("__debug__" : Str)) = false := by decide) (he : starEach (e :: es) X.env = (false, eval e X.env) :: starEach es X.env := by rfl) (hpl : (backTo pos (starEach es X.env)).any (·.1) = false := by rfl) :
    PE X (.Call (.Name x p) (e :: es) [] pos) (tMakeS C sp (WE W) t) := by
  obtain ⟨f, fd, h1, M, hb, F⟩ := F
  refine ⟨fun pins s σ H Q I h => wpAny_Call_Name_kw (ld_glob I hg h1 ?_ hdb)⟩
  refine PySem.W.callWith_K (h₀ := X.base) I.ok.mod.kin M.kp (thn (ha.run pos pins s σ H _ I h) fun us s1 ⟨vs, H1, I1, r, q⟩ => ⟨I1.kIn, ?_⟩) he hpl
  have q1 := q (s1.heap.objs.size + 1) s1.heap.objs.size (I1.hok.fresh (Nat.le_succ _)) (I1.hok.fresh (Nat.le_refl _)) (Nat.ne_of_lt (Nat.lt_succ_self _))
  have J := Inv.made (C := C) I1
  have r2 : Vals (V.ref (s1.heap.objs.size + 1) :: vs) (Value.ref (s1.heap.objs.size + 1) :: us) := .cons rfl r
  have hl : (Value.ref (s1.heap.objs.size + 1) :: us).length = ps.length := (r2.length.symm.trans (F.len _ _ _ _ q1))
  have b := hb _ (Value.ref (s1.heap.objs.size + 1) :: us) J.kIn (by rw [List.append_nil]; exact hl)
  rw [List.append_nil] at b
  refine wpAny_call (make_map (f := f) I1.kIn M.makes M.init (beq_iff_eq.mp M.fn) (codeAny_mono (F.run _ X.stack _ _ ⟨Value.ref (s1.heap.objs.size + 1) :: us, []⟩ _ _ _ _ (hr.make C us []) (J.env0.make C us []) b r2 q1) fun z s' hz => ?_))
  match z, hz with
  | .error er, hz => exact passAt tk σ pins _ _ er s' J hz
  | .ok (.ret u), hz =>
    obtain ⟨v, H', I3, rv, ev, q3⟩ := J.after hz
    subst ev
    exact ⟨rv, V.ref (s1.heap.objs.size + 1), H', I3, rfl, q3⟩
  | .ok .next, hz => exact hz.elim
  | .ok .brk, hz => exact hz.elim
  | .ok .cont, hz => exact hz.elim
/-- the exception's making, of a class with the __init__ of two fields -/
theorem pm_2 {f1 f2 : Str} (G : Xm X.prog X.w X.K X.mg X.base x C (spX2 C f1 f2)) (hr : Room 2 X.A) (ha : PA X (e :: es) t) (hg : Gl X x := by rfl)
    (hdb : (x == ("__debug__" : Str)) = false := by decide) (he : starEach (e :: es) X.env = (false, eval e X.env) :: starEach es X.env := by rfl) (hpl : (backTo pos (starEach es X.env)).any (·.1) = false := by rfl) :
    PMk X (.Call (.Name x p) (e :: es) [] pos) (tMkO C (spX2 C f1 f2) [] t) := by
  obtain ⟨fI, fd, ps, h1, h2, h3, h4, h5, h6⟩ := G
  exact pmk_oex h2 h3 h4 h6 hr h5 .nil pass0 hg h1 ha hdb he hpl
theorem pset {i : Nat} {y : Str} {te : TE} {pos' : Pos} (hN : X.N.Nodup) (he : PE X e te) (hi : X.N[i]? = some y := by rfl) (hx : Loc X.env.scope y := by first | exact Or.inl rfl | exact Or.inr rfl) (hs : swapsWith e (some (.Name y pos')) pos.line X.env = pure false := by rfl)
    (hf : X.fn y = true ∨ X.env.scope.names.lookup y = some .local := by first | exact .inl rfl | exact .inr rfl | assumption) : PS X (.Assign [.Name y pos'] e pos) (tAsg te (gName i)) := ps_set hN hi hx he hs hf
theorem pgn {i : Nat} {y : Str} (hN : X.N.Nodup) (hi : X.N[i]? = some y := by rfl) (hx : Loc X.env.scope y := by first | exact Or.inl rfl | exact Or.inr rfl)
    (hf : X.fn y = true ∨ X.env.scope.names.lookup y = some .local := by first | exact .inl rfl | exact .inr rfl | assumption) : PG X (.Name y pos) (gName i) := pg_name hN hi hx hf
end
end Qw

set_option maxHeartbeats 1000000
namespace Qw
open PySem PySem.Spec PyProof.Rows L2 Evl
open Pw (Dt Rp RpL Wk none_sub get_set set_same set_ne R2d R1d RLd RLn Kq KqL truD isEmpty_rp flatD fl py pyL rangeD rangeD_len charsD wl_at Wl wl_range rangeD_nat find_split itemD spX2 Xm Xm0)
/-! ### a walk over what is a list or a tuple -/
def iSeq (K : PySem.W.Frag) (tl : TE) : TI := fun σ H R => tl σ H fun x H1 => ∃ a, x = .ref a ∧ (((∃ xs, SqL K H1 a xs) ∧ R (Itl K a) H1) ∨ ((∃ xs, SqT K H1 a xs) ∧ R (Itt K a) H1))
theorem pie_new {X : Cx} {pins : List (Addr × Obj)} {σ : L2.St} {tg : Expr} {R : It → Hp → Prop} {H : Hp} {s : Shared} {J : It} {o : Obj} {tn : Nat → Heap → Prop} (I : Inv X pins σ H s) (t : Turn X.prog X.w X.K tg J [s.heap.objs.size] s.heap.objs.size tn)
    (h0 : tn 0 (s.heap.push o)) (q : R J H) : PIE X pins σ tg R (.ref s.heap.objs.size) { s with heap := s.heap.push o } := by
  refine ⟨_, _, tn, J, H, rfl, I.kept (t' := s.toks) fun b o e => Heap.get?_push_of_some _ e, t, h0, fun b hb => ?_, q⟩
  rw [List.mem_singleton] at hb
  subst hb
  exact I.fpOk (Nat.le_refl _) (I.hok.fresh (Nat.le_refl _))
theorem pi_seq {X : Cx} {tg l : Expr} {tl : TE} (hl : PE X l tl) : PI X tg l (iSeq X.K tl) := by
  refine ⟨fun pins s σ H R I h => thn (hl.run pins s σ H _ I h) fun v s1 hv => ?_⟩
  obtain ⟨x, H1, I1, r1, a, e, q⟩ := hv
  subst e
  cases r1
  rcases q with ⟨⟨xs, hq⟩, q⟩ | ⟨⟨xs, hq⟩, q⟩
  · obtain ⟨its, _, p, _⟩ := I1.list hq
    exact wpAny_pyIter_list p.isList (pie_new I1 (turn_list a _) ⟨_, Heap.get?_push_size _ rfl, rfl, rfl⟩ q)
  · obtain ⟨its, _, p, _⟩ := I1.tuple hq
    exact wpAny_pyIter_tuple (show s1.heap.IsTuple a its.toArray from p) (pie_new I1 (turn_tuple a _) ⟨_, Heap.get?_push_size _ rfl, rfl, rfl⟩ q)
section
variable {P : Program} {w : World} {K : PySem.W.Frag} {env : En} {tl : TE} {ds : List Dt}
theorem ip_seqL (h : Ep P w K tl env (.lst ds)) : Ip P w K (iSeq K tl) env ds := fun F0 H0 F H σ S R k =>
  h F0 H0 F H σ S _ fun v F1 H1 k1 r => by
    obtain ⟨a, vs, rfl, h1, h2⟩ := r
    exact ⟨a, rfl, .inl ⟨⟨vs, ex_l k1.s h1⟩, k _ F1 H1 k1 (wl_at h2 walk_list fun H e => ex_l e h1)⟩⟩
theorem ip_seqT (h : Ep P w K tl env (.tup ds)) : Ip P w K (iSeq K tl) env ds := fun F0 H0 F H σ S R k =>
  h F0 H0 F H σ S _ fun v F1 H1 k1 r => by
    obtain ⟨a, vs, rfl, h1, h2⟩ := r
    exact ⟨a, rfl, .inr ⟨⟨vs, ex_t k1.s h1⟩, k _ F1 H1 k1 (wl_at h2 walk_tup fun H e => ex_t e h1)⟩⟩
/-- tuple(xs) of a list or of a tuple -/
theorem ep_globT {a : Addr} {ds : List Dt} (h : ∀ F : Hp, Rp K F (.tup ds) (.ref a)) : Ep P w K (tC (.ref a)) env (.tup ds) := ep_c h
theorem rp_wr {a : Addr} {ds : List Dt} {vs : List V} (h : ∀ H, SqT K H a vs) (r : ∀ F, RpL K F ds vs) (F : Hp) : Rp K F (.tup ds) (.ref a) := ⟨a, vs, rfl, h F, r F⟩
theorem rpl_strs {F : Hp} : ∀ (xs : List Str), RpL K F (xs.map Dt.str) (xs.map V.str)
  | [] => rfl
  | x :: xs => ⟨_, _, rfl, rfl, rpl_strs xs⟩
end
end Qw

set_option maxHeartbeats 1000000
namespace Qw
open PySem PySem.Spec PyProof.Rows L2 Evl
open Pw (Dt Rp RpL Wk none_sub get_set set_same set_ne R2d R1d RLd RLn Kq KqL truD isEmpty_rp flatD fl py pyL rangeD rangeD_len charsD wl_at Wl wl_range rangeD_nat find_split itemD spX2 Xm Xm0)
section
variable {P : Program} {w : World} {K : PySem.W.Frag} {env env1 env2 env3 : En} {te tv : TE} {d e z : Dt} {g g1 : TG} {wi wi1 : TI} {tt tt1 : TT}
/-- what is made so far, in the list at D -/
structure Mk2 (P : Program) (w : World) (K : PySem.W.Frag) (F0 H0 F1 H1 : Hp) (σ : L2.St) (env : En) (D : Addr) (l : List Dt) (F2 H2 : Hp) (acc : List V) : Prop where
  f : Ex F1 F2
  d : F2 D = none
  a : H2 D = some (.lst acc)
  r : RpL K F2 l acc
  s : Sm P w K F0 H0 F2 H2 σ env
  h : Ex H1 H2
  n : ∀ a o, H1 a = some o → F1 a = none → F2 a = none
theorem Mk2.wk {F0 H0 F1 H1 F2 H2 F3 H3 : Hp} {σ : L2.St} {D : Addr} {l : List Dt} {acc : List V} (m : Mk2 P w K F0 H0 F1 H1 σ env D l F2 H2 acc) (k : Wk F2 H2 F3 H3) : Mk2 P w K F0 H0 F1 H1 σ env D l F3 H3 acc :=
  ⟨m.f.trans k.f, k.n D _ m.a m.d, k.h D _ m.a, m.r.mono k.f, m.s.wk k, m.h.trans k.h, fun a o h h' => k.n a o (m.h a o h) (m.n a o h h')⟩
theorem Mk2.add {F0 H0 F1 H1 F2 H2 : Hp} {σ : L2.St} {D : Addr} {l : List Dt} {acc : List V} {v : V} (m : Mk2 P w K F0 H0 F1 H1 σ env D l F2 H2 acc) (r : Rp K F2 d v) (n1 : H1 D = none) (n0 : H0 D = none) (nO : ¬ Own σ env D) : Mk2 P w K F0 H0 F1 H1 σ env D (l ++ [d]) F2 (L2.upd H2 D (.lst (acc ++ [v]))) (acc ++ [v]) :=
  ⟨m.f, m.d, upd_same, RpL.append m.r (RpL.cons r RpL.nil), m.s.upd _ m.d n0 nO, fun a o h => by
    rw [upd_ne (ne_of_none h n1)]
    exact m.h a o h, m.n⟩
/-- [e for x in xs for y in inner], its parts changing nothing, no tests -/
theorem np_lc2T {α : Type} {vs vs1 : List Nat} (xs : List α) (dec : α → Dt) (hI : Ip P w K wi env (xs.map dec)) (inner : α → List Dt) (hn : (xs.flatMap inner).length ≤ 40000) (v : Dt → Dt)
    (hs : ∀ (i : Nat) (a : α), xs[i]? = some a → ∃ e1, Gc P w K g vs (dec a) (wipeE env vs) e1 ∧ Ip P w K wi1 e1 (inner a) ∧ ∀ d ∈ inner a, ∃ e2, Gc P w K g1 vs1 d (wipeE e1 vs1) e2 ∧ Ep P w K te e2 (v d)) : EpN P w K (tLc2 wi g tYes wi1 g1 tYes te vs vs1) env ((xs.flatMap inner).map v) := fun F0 H0 F H σ S Q q =>
  hI F0 H0 F H σ S _ fun J F1 H1 k1 W D hD => by
    have nF : F1 D = none := none_sub k1.s hD
    have S1 := S.wk k1
    have n0 : H0 D = none := none_sub S1.g.h hD
    have nO : ¬ Own σ env D := S1.ownNew hD
    unfold Wl at W
    rw [List.length_map] at W
    refine ⟨fun i m H2 => m = xs.length - i ∧ i ≤ xs.length ∧ ∃ F2 acc, Mk2 P w K F0 H0 F1 H1 σ env D (((xs.take i).flatMap inner).map v) F2 H2 acc, ⟨xs.length, by simp, Nat.zero_le _, F1, [], Ex.refl F1, nF, upd_same, rfl, S1.upd _ nF n0 nO, Ex.new hD, fun _ _ _ n => n⟩, ?_⟩
    rintro i m H2 ⟨rfl, hi, F2, acc, M⟩
    by_cases hlt : i < xs.length
    · refine .inr ⟨W.goes i H2 hlt (M.f.trans M.s.sub), fun H' => ∃ F2 acc, Mk2 P w K F0 H0 F1 H1 σ env D (((xs.take (i + 1)).flatMap inner).map v) F2 H' acc, fun H' q => ⟨xs.length - (i + 1), by omega, rfl, hlt, q⟩, fun x H2' y => ?_⟩
      obtain ⟨F3, d', w3, hd', r3⟩ := W.yields i H2 x H2' hlt (M.f.trans M.s.sub) y F2 M.f M.s.sub
      obtain ⟨a, ha⟩ : ∃ a, xs[i]? = some a := ⟨_, List.getElem?_eq_getElem hlt⟩
      rw [List.getElem?_map, ha] at hd'
      cases hd'
      obtain ⟨e1, hg, hi1, he⟩ := hs i a ha
      have etake : (xs.take (i + 1)).flatMap inner = (xs.take i).flatMap inner ++ inner a := by
        rw [List.take_add_one, ha]
        simp
      have htot : ((xs.take (i + 1)).flatMap inner).length ≤ 40000 := by
        refine Nat.le_trans ?_ hn
        rw [show xs.flatMap inner = (xs.take (i + 1)).flatMap inner ++ (xs.drop (i + 1)).flatMap inner by rw [← List.flatMap_append, List.take_append_drop]]
        simp
      have M3 := M.wk w3
      refine hg F0 H0 F3 H2' σ x (M3.s.wipe vs) r3 _ fun σ2 hw hO S3 => ⟨hw, ?_⟩
      have nO2 : ¬ Own σ2 e1 D := fun z => nO (own_wipe (hO D z))
      show wi1 σ2 H2' _
      refine hi1 F0 H0 F3 H2' σ2 S3 _ fun J1 F4 H4 k4 W1 => ?_
      unfold Wl at W1
      have M4 := M3.wk k4
      refine ⟨fun j k H5 => k = (inner a).length - j ∧ j ≤ (inner a).length ∧ ∃ F5 acc, Ex F4 F5 ∧ Mk2 P w K F0 H0 F1 H1 σ env D (((xs.take i).flatMap inner).map v ++ ((inner a).take j).map v) F5 H5 acc ∧ Sm P w K F0 H0 F5 H5 σ2 e1, ⟨(inner a).length, by simp, Nat.zero_le _, F4, acc, Ex.refl F4, by simpa using M4, S3.wk k4⟩, ?_⟩
      rintro j k H5 ⟨rfl, hj, F5, acc5, x5, M5, S5⟩
      by_cases hl2 : j < (inner a).length
      · refine .inr ⟨W1.goes j H5 hl2 (x5.trans S5.sub), fun H' => ∃ F5 acc, Ex F4 F5 ∧ Mk2 P w K F0 H0 F1 H1 σ env D (((xs.take i).flatMap inner).map v ++ ((inner a).take (j + 1)).map v) F5 H' acc ∧ Sm P w K F0 H0 F5 H' σ2 e1, fun H' q => ⟨(inner a).length - (j + 1), by omega, rfl, hl2, q⟩, fun x2 H5' y2 => ?_⟩
        obtain ⟨F6, d2, w6, hd2, r6⟩ := W1.yields j H5 x2 H5' hl2 (x5.trans S5.sub) y2 F5 x5 S5.sub
        obtain ⟨e2, hg1, he1⟩ := he d2 (List.mem_of_getElem? hd2)
        have M6 := M5.wk w6
        refine hg1 F0 H0 F6 H5' σ2 x2 ((S5.wk w6).wipe vs1) r6 _ fun σ3 hw3 _ S6 => ⟨hw3, ?_⟩
        show te σ3 H5' _
        refine he1 F0 H0 F6 H5' σ3 S6 _ fun vv F7 H7 k7 r7 => ?_
        have M7 := M6.wk k7
        refine ⟨acc5, M7.a, ?_, F7, acc5 ++ [vv], (x5.trans w6.f).trans k7.f, ?_, ((S5.wk w6).wk k7).upd _ M7.d n0 nO2⟩
        · rw [← M7.r.length]
          have h1 : ((inner a).take j).length ≤ (inner a).length := by simp; omega
          rw [etake, List.length_append] at htot
          simp only [List.length_append, List.length_map]
          exact sz_lt (by omega)
        · have := M7.add r7 hD n0 nO
          rw [List.append_assoc] at this
          have e3 : (inner a).take (j + 1) = (inner a).take j ++ [d2] := by
            rw [List.take_add_one, hd2]
            rfl
          rw [e3, List.map_append]
          exact this
      · have e : j = (inner a).length := by omega
        subst e
        refine .inl ⟨W1.stops H5 (x5.trans S5.sub), F5, acc5, ?_⟩
        rw [etake, List.map_append]
        rw [List.take_length] at M5
        exact M5
    · have e : i = xs.length := by omega
      subst e
      rw [List.take_length] at M
      exact .inl ⟨W.stops H2 (M.f.trans M.s.sub), q D acc F2 H2 (k1.trans ⟨M.f, M.h, M.s.sub, M.n⟩) (none_sub k1.h hD) M.d M.a M.r⟩
theorem se_fldX {W : WX} {x : Xn} {tv ta : TE} {n : Str} (h : Er P w K W tv env x env1) : Se P w K (sFld K ta tv n) env (.rz W x env1) := fun F0 H0 F H σ D S p => h F0 H0 F H σ S _ fun od F1 H1 k S1 r => p od F1 H1 σ k S1 r
end
end Qw

set_option maxHeartbeats 1000000
namespace Qw
open PySem PySem.Spec PyProof.Rows L2 Evl
open Pw (Dt Rp RpL Wk none_sub get_set set_same set_ne R2d R1d RLd RLn Kq KqL truD isEmpty_rp flatD fl py pyL rangeD rangeD_len charsD wl_at Wl wl_range rangeD_nat find_split itemD spX2 Xm Xm0)
section
variable {P : Program} {w : World} {K : PySem.W.Frag} {env : En}
/-- {k: v, ..} as it is written -/
def EpP (P : Program) (w : World) (K : PySem.W.Frag) (env : En) : List (TE × TE) → KD → Prop
  | [], [] => True
  | t :: ts, p :: ps => Ep P w K t.1 env (kD p.1) ∧ Ep P w K t.2 env p.2 ∧ EpP P w K env ts ps
  | _, _ => False
theorem pairs_run {F0 H0 : Hp} {σ : L2.St} : ∀ {ts : List (TE × TE)} {kvs : KD} {F H : Hp} {Q : List (V × V) → Hp → Prop}, EpP P w K env ts kvs → Sm P w K F0 H0 F H σ env →
    (∀ (q : List (Key × V)) F' H', Wk F H F' H' → PrD K F' kvs q → Q (q.map fun kv => (kV kv.1, kv.2)) H') → tPairs ts σ H Q
  | [], [], F, H, Q, _, S, q => q [] F H (Wk.refl S.sub) ⟨rfl, rfl⟩
  | [], _ :: _, _, _, _, h, _, _ => h.elim
  | _ :: _, [], _, _, _, h, _, _ => h.elim
  | t :: ts, p :: ps, F, H, Q, h, S, q => by
    obtain ⟨h1, h2, h3⟩ := h
    refine h1 F0 H0 F H σ S _ fun x F1 H1 k1 r1 => h2 F0 H0 F1 H1 σ (S.wk k1) _ fun y F2 H2 k2 r2 => pairs_run h3 ((S.wk k1).wk k2) fun qs F3 H3 k3 r3 => ?_
    rw [kD_rp r1]
    exact q ((p.1, y) :: qs) F3 H3 ((k1.trans k2).trans k3) (.cons (r2.mono k3.f) r3)
theorem PrD.merge {F : Hp} : ∀ {more kvs : KD} {q ms : List (Key × V)}, PrD K F kvs q → PrD K F more ms → PrD K F (more.foldl (fun a p => putD a p.1 p.2) kvs) (mergeK q ms)
  | [], kvs, q, ms, h, hm => by
    rw [hm.nil]
    exact h
  | p :: more, kvs, q, ms, h, hm => by
    obtain ⟨v, ms', rfl, r, t⟩ := hm.inv
    exact PrD.merge (more := more) (kvs := putD kvs p.1 p.2) (q := putK q p.1 v) (ms := ms') (h.put p.1 r) t
theorem po_disp {ts : List (TE × TE)} {kvs : KD} (h : EpP P w K env ts kvs) (hn : kvs.length ≤ 15) : EpO P w K (tDisp ts) env (.dk (kvs.foldl (fun a p => putD a p.1 p.2) [])) := fun F0 H0 F H σ S Q q p hp => by
  have nF : F p = none := none_sub S.sub hp
  have n0 : H0 p = none := none_sub S.g.h hp
  have nO := S.ownNew hp
  refine pairs_run h (S.upd (.dK []) nF n0 nO) fun qs F1 H1 k1 r => ⟨k1.h p _ upd_same, qs, rfl, by rw [← r.length]; exact hn, ?_⟩
  have kk : Wk F H F1 (L2.upd H1 p (.dK (mergeK [] qs))) := by
    refine ⟨k1.f, fun a u z => ?_, fun a u z => ?_, fun a u z n => k1.n a u (by rw [upd_ne (ne_of_none z hp)]; exact z) n⟩
    · rw [upd_ne (ne_of_none z hp)]
      exact k1.h a u (by rw [upd_ne (ne_of_none z hp)]; exact z)
    · have : F1 p = none := k1.n p _ upd_same nF
      rw [upd_ne (ne_of_none z this)]
      exact k1.s a u z
  exact q p _ F1 _ kk hp (k1.n p _ upd_same nF) upd_same (odk_of (PrD.merge ⟨rfl, rfl⟩ r))
end
end Qw

/-! own layer: list + list where both are known as read lists -/
set_option maxHeartbeats 400000
namespace Qw
open PySem PySem.Spec PyProof.Rows L2
open Evl hiding ea_cons
open Pw (Dt Rp RpL Wk R2d R1d RLd RLn Kq KqL)
def rCatR (K : PySem.W.Frag) : R2 := fun x y H Q => ∃ a b us vs, x = .ref a ∧ y = .ref b ∧ SqL K H a us ∧ SqL K H b vs ∧ us.length + vs.length ≤ sizeLine ∧ ∀ p, H p = none → Q (.ref p) (upd H p (.lst (us ++ vs)))
section
variable {X : Cx}
theorem op_catS : OpR X (binaryOp .Add) (rCatR X.K) := by
  intro pins s σ H x y v u Q I rx ry h
  obtain ⟨a, b, us, vs, rfl, rfl, ha, hb, hz, q⟩ := h
  cases rx
  cases ry
  obtain ⟨its, r1, p1, _⟩ := I.list ha
  obtain ⟨its2, r2, p2, _⟩ := I.list hb
  obtain ⟨⟨c1, d1, t1, l1⟩, g1, e1, n1, k1⟩ := p1.isList
  obtain ⟨⟨c2, d2, t2, l2⟩, g2, e2, n2, k2⟩ := p2.isList
  simp only at e1 k1 e2 k2
  subst e1 k1 e2 k2
  have hs : its.toArray.size + its2.toArray.size ≤ sizeLine := by
    rw [List.size_toArray, List.size_toArray, ← r1.length, ← r2.length]
    exact hz
  have eq : its.toArray ++ its2.toArray = (its ++ its2).toArray := by simp
  refine concat_meets ⟨_, g1, rfl⟩ ⟨_, g2, rfl⟩ noFill_list_add seq_list_add PySem.F.slot_list_add PySem.F.entry_list_add (PySem.F.args_list_add_2 _ _) (list_addW a b its.toArray its2.toArray n1 n2 d1 d2 l1 l2 hs) ⟨g1, g2, ?_⟩
  rw [eq]
  exact ⟨.ref _, _, I.lnew (t' := s.toks) (r1.append r2) (by rw [List.length_append]; exact hz), rfl, q _ I.fresh⟩
end
section
variable {K : PySem.W.Frag}
variable {P : Program} {w : World} {env : En} {ta tb : TE}
theorem RpL.rev {F : Hp} : ∀ {ds : List Dt} {us : List V}, RpL K F ds us → RpL K F ds.reverse us.reverse
  | [], us, h => by
    have : us = [] := by
      have := RpL.length h
      simpa using this.symm
    subst this
    exact h
  | d :: ds, us, h => by
    obtain ⟨v, vs, rfl, r, h⟩ := h
    rw [List.reverse_cons, List.reverse_cons]
    exact RpL.append (RpL.rev h) ⟨v, [], rfl, r, rfl⟩
theorem r2_cat {ds es : List Dt} (hl : ds.length + es.length ≤ 100000) : R2d K (rCatR K) (.lst ds) (.lst es) (.lst (ds ++ es)) := fun F H x y s r1 r2 Q q => by
  obtain ⟨a, us, rfl, g1, e1⟩ := r1
  obtain ⟨b, vs, rfl, g2, e2⟩ := r2
  refine ⟨a, b, us, vs, rfl, rfl, ex_l s g1, ex_l s g2, by rw [← e1.length, ← e2.length]; exact sz_of hl, fun p hp => ?_⟩
  have k : Wk F H (L2.upd F p (.lst (us ++ vs))) (L2.upd H p (.lst (us ++ vs))) := Wk.new s _ hp
  exact q (.ref p) _ _ k ⟨p, us ++ vs, rfl, .inl (.inl upd_same), (e1.append e2).mono k.f⟩
theorem ep_revL {ds : List Dt} (h : Ep P w K ta env (.lst ds)) : Ep P w K (tRevL K ta) env (.lst ds.reverse) := fun F0 H0 F H σ S Q q =>
  h F0 H0 F H σ S _ fun v F1 H1 k1 r => by
    obtain ⟨a, us, rfl, g1, e1⟩ := r
    refine ⟨a, us, rfl, ex_l k1.s g1, fun p hp => ?_⟩
    have k : Wk F1 H1 (L2.upd F1 p (.lst us.reverse)) (L2.upd H1 p (.lst us.reverse)) := Wk.new k1.s _ hp
    exact q (.ref p) _ _ (k1.trans k) ⟨p, us.reverse, rfl, .inl (.inl upd_same), (RpL.rev e1).mono k.f⟩
theorem rl_strI {i : Int} (hi : i.natAbs < 1000000) : RLd K (fun xs H Q => ∃ j, xs = [V.int j] ∧ j.natAbs.log2 < 1920 ∧ Q (.str (toString j)) H) [.int i] (.str (toString i)) := fun F H vs s r Q q => by
  obtain ⟨v, r1, rfl, e1, e2⟩ := r
  cases e1; cases e2
  refine ⟨i, rfl, ?_, q _ F H (Wk.refl s) rfl⟩
  have h1 : i.natAbs.log2 ≤ 20 := by
    by_cases z : i.natAbs = 0
    · rw [z]; decide
    · exact Nat.le_of_lt ((Nat.log2_lt z).mpr (by omega))
  omega
end
end Qw

/-! own layer: a loop that returns at the first hit -/
set_option maxHeartbeats 400000
namespace Qw
open PySem PySem.Spec PyProof.Rows L2
open Evl hiding ea_cons
open Pw (Dt Rp RpL Wk R2d R1d RLd RLn Kq KqL)
theorem first_at {α : Type} {p : α → Bool} : ∀ {l : List α} {a : α}, l.find? p = some a → ∃ i, l[i]? = some a ∧ p a = true ∧ ∀ (j : Nat) x, j < i → l[j]? = some x → p x = false
  | [], _, h => by simp at h
  | b :: l, a, h => by
    rw [List.find?_cons] at h
    cases hb : p b with
    | true =>
      rw [hb] at h
      cases h
      exact ⟨0, rfl, hb, fun j x hj => absurd hj (Nat.not_lt_zero j)⟩
    | false =>
      rw [hb] at h
      obtain ⟨i, h1, h2, h3⟩ := first_at h
      refine ⟨i + 1, h1, h2, fun j x hj hx => ?_⟩
      cases j with
      | zero => cases hx; exact hb
      | succ j => exact h3 j x (by omega) hx
section
variable {P : Program} {w : World} {K : PySem.W.Frag} {env : En}
theorem se_first {α : Type} {wi : TI} {g : TG} {tb s2 : TS} {o : Out} (xs : List α) (dec : α → Dt) (p : α → Bool) (z : α → Dt) (hI : Ip P w K wi env (xs.map dec)) (E : En) (h0 : Le env E)
    (hs : ∀ a ∈ xs, ∃ e1, Ge P w K g (dec a) E e1 ∧ (p a = true → Se P w K tb e1 (.rt (z a))) ∧ (p a = false → Se P w K tb e1 (.nc E)))
    (h2 : xs.find? p = none → Se P w K s2 E o) (h3 : ∀ a, xs.find? p = some a → o = .rt (z a)) : Se P w K (tSeq (tFor wi g tb) s2) env o := by
  cases h : xs.find? p with
  | none =>
    have hn : ∀ a ∈ xs, p a = false := fun a ha => by simpa using List.find?_eq_none.mp h a ha
    refine se_seq (se_for (ie_p hI) (fun _ => E) xs.length (by simp) h0 (fun i d hi hd => ?_) (.inl ⟨by simp, rfl⟩)) (h2 h)
    rw [List.getElem?_map] at hd
    obtain ⟨a, ha, rfl⟩ := Option.map_eq_some_iff.mp hd
    have hm := List.mem_of_getElem? ha
    obtain ⟨e1, g1, _, g3⟩ := hs a hm
    exact ⟨e1, g1, g3 (hn a hm)⟩
  | some a =>
    rw [h3 a h]
    obtain ⟨i, h1, h4, h5⟩ := first_at h
    have hi : i < xs.length := (List.getElem?_eq_some_iff.mp h1).1
    refine se_seqF (se_for (ie_p hI) (fun _ => E) i (by simp; omega) h0 (fun j d hj hd => ?_) (.inr ?_))
    · rw [List.getElem?_map] at hd
      obtain ⟨x, hx, rfl⟩ := Option.map_eq_some_iff.mp hd
      obtain ⟨e1, g1, _, g3⟩ := hs x (List.mem_of_getElem? hx)
      exact ⟨e1, g1, g3 (h5 j x hj hx)⟩
    · obtain ⟨e1, g1, g2, _⟩ := hs a (List.mem_of_getElem? h1)
      exact ⟨dec a, e1, by rw [List.getElem?_map, h1]; rfl, g1, .inl ⟨rfl, (fun _ z => nomatch z), (fun _ z => nomatch z), g2 h4⟩⟩
end
end Qw

/-! own layer: tuples cut and joined -/
set_option maxHeartbeats 400000
namespace Qw
open PySem PySem.Spec PyProof.Rows L2
open Evl hiding ea_cons
open Pw (Dt Rp RpL Wk R2d R1d RLd RLn Kq KqL)
section
variable {X : Cx}
theorem op_mulS : OpR X (binaryOp .Mult) (fun x y H Q => ∃ i n, x = V.str i ∧ y = V.int n ∧ MulOk i n ∧ Q (.str (Txt.mul i n)) H) := by
  intro pins s σ H x y v u Q I rx ry h
  obtain ⟨i, n, rfl, rfl, hm, q⟩ := h
  obtain ⟨t, rfl⟩ := rx
  obtain ⟨t', rfl⟩ := ry
  exact SB.mul hm fun t' tk => ⟨.str (Txt.mul i n), H, I.tok _, ⟨_, rfl⟩, q⟩
end
section
variable {P : Program} {w : World} {K : PySem.W.Frag} {env : En} {te : TE} {tl th : TO}
def cutD (ds : List Dt) (lo hi : Option Int) : List Dt := (ds.drop (HT.sIx ds.length 0 lo)).take (HT.sIx ds.length ds.length hi - HT.sIx ds.length 0 lo)
theorem ep_slT {ds : List Dt} {lo hi : Option Int} (h : Ep P w K te env (.tup ds)) (h1 : Op P w K tl env lo) (h2 : Op P w K th env hi) : Ep P w K (tSl (rSlA K) te tl th) env (.tup (cutD ds lo hi)) := fun F0 H0 F H σ S Q q =>
  h F0 H0 F H σ S _ fun v F1 H1 w1 r => h1 F0 H0 F1 H1 σ (S.wk w1) _ fun F2 H2 w2 => h2 F0 H0 F2 H2 σ ((S.wk w1).wk w2) _ fun F3 H3 w3 => by
    obtain ⟨a, vs, rfl, g1, g2⟩ := r
    have g3 := g2.mono (w2.f.trans w3.f)
    refine ⟨a, vs, rfl, ex_t (w1.s.trans (w2.h.trans w3.h)) g1, fun ⟨z1, z2⟩ => ?_, fun _ p hp => ?_⟩
    · have e : cutD ds lo hi = ds := by
        unfold cutD
        rw [g2.length, z1, z2]
        simp [← g2.length]
      rw [e] at q
      exact q (.ref a) F3 H3 ((w1.trans w2).trans w3) ⟨a, vs, rfl, ex_t (w2.f.trans w3.f) g1, g3⟩
    · have k : Wk F3 H3 (L2.upd F3 p (.tup (cutV vs lo hi))) (L2.upd H3 p (.tup (cutV vs lo hi))) := Wk.new w3.s _ hp
      refine q (.ref p) _ _ (((w1.trans w2).trans w3).trans k) ⟨p, _, rfl, SqT.of upd_same, RpL.mono k.f ?_⟩
      unfold cutD cutV
      rw [← g2.length]
      exact RpL.take _ (RpL.drop _ g3)
theorem r2_mulS {i : Str} {n : Int} (h : MulOk i n) : R2d K (fun x y H Q => ∃ i n, x = V.str i ∧ y = V.int n ∧ MulOk i n ∧ Q (.str (Txt.mul i n)) H) (.str i) (.int n) (.str (Txt.mul i n)) := fun F H x y s r1 r2 Q q => ⟨i, n, r1, r2, h, q _ F H (Wk.refl s) rfl⟩
theorem r2_catT {ds es : List Dt} (hl : ds.length + es.length ≤ 100000) : R2d K (rCatA K) (.tup ds) (.tup es) (.tup (ds ++ es)) := fun F H x y s r1 r2 Q q => by
  obtain ⟨a, us, rfl, g1, e1⟩ := r1
  obtain ⟨b, vs, rfl, g2, e2⟩ := r2
  refine ⟨a, b, us, vs, rfl, rfl, ex_t s g1, ex_t s g2, sz_of (by rw [← e1.length, ← e2.length]; exact hl), fun z => ?_, fun _ z => ?_, fun _ _ p hp => ?_⟩
  · have : ds = [] := List.length_eq_zero_iff.mp (by rw [e1.length, z]; rfl)
    rw [this] at q
    exact q _ F H (Wk.refl s) ⟨b, vs, rfl, g2, e2⟩
  · have : es = [] := List.length_eq_zero_iff.mp (by rw [e2.length, z]; rfl)
    rw [this, List.append_nil] at q
    exact q _ F H (Wk.refl s) ⟨a, us, rfl, g1, e1⟩
  · have k : Wk F H (L2.upd F p (.tup (us ++ vs))) (L2.upd H p (.tup (us ++ vs))) := Wk.new s _ hp
    exact q (.ref p) _ _ k ⟨p, us ++ vs, rfl, SqT.of upd_same, (e1.append e2).mono k.f⟩
end
end Qw

/-! own layer: ends -/
set_option maxHeartbeats 1000000
namespace Qw
open PySem PySem.Spec PyProof.Rows L2
open Evl hiding ea_cons
open Pw (spX2)
def oexB (K : PySem.W.Frag) (C : Addr) : Bool := (match K.lookup C with
  | some ⟨.type "type", _, .cls cd, sl⟩ => (match cd.mro, sl.toList with
    | .ref C' :: bm, [_, _, _, _, some (.builtin n), _] => C' == C && (n == "ValueError.__new__" && (!cd.hasDel && (cd.hasDict && PySem.HandSPX.refsVE bm)))
    | _, _ => false)
  | _ => false) && (decide (PySem.W.findIn K (.ref C) "__setattr__" = some (some (.builtin "object.__setattr__"))) && (decide (PySem.W.subIn K (.ref C) (.type "BaseException") = some true) && (decide (PySem.W.typeIn K (.ref C) = some (.type "type")) && PySem.W.keepIn K (.ref C))))
theorem oexB_ok {K : PySem.W.Frag} {C : Addr} (h : oexB K C = true) : OexC K C := by
  unfold oexB at h
  obtain ⟨h0, h⟩ := Bool.and_eq_true_iff.mp h
  simp only [Bool.and_eq_true, decide_eq_true_eq] at h
  obtain ⟨h2, h3, h4, h5⟩ := h
  refine ⟨?_, h2, h3, h4, h5⟩
  split at h0
  · rename_i dd cd sl ho
    split at h0
    · rename_i C' bm k0 k1 k2 k3 n k5 hm hs
      simp only [Bool.and_eq_true, beq_iff_eq, Bool.not_eq_true'] at h0
      obtain ⟨rfl, rfl, hdel, hdict, hv⟩ := h0
      obtain ⟨nm, bs, mro, ns, qn, hd, sn, sub, ab, col, del⟩ := cd
      obtain ⟨l⟩ := sl
      dsimp only at hm hdel hdict hs
      subst hm hdel hdict hs
      exact ⟨nm, qn, ns, bs, bm, sn, sub, ab, col, dd, k0, k1, k2, k3, k5, ho, hv⟩
    · cases h0
  · cases h0
section
variable {P : Program} {w : World} {K : PySem.W.Frag} {mg : Str → Option Value} {base : Heap} {R : List Pw.Dt → Rs → Prop}
theorem init2c {C fI : Addr} {fd : FuncData} {qual f1 f2 g1 g2 : Str} {params : Arguments} {body : List Stmt} {scope : Scope} (F : FunD K "__init__" qual params body scope [] [] fI fd) (S : FnScope [("self" : Str), g1, g2] [("self" : Str), g1, g2] scope)
    (T : OexC K C) (n1 : PySem.W.findIn K (.ref C) f1 = some none) (n2 : PySem.W.findIn K (.ref C) f2 = some none)
    (hd : ∀ (cdv : Value) (A : Around) (outer : List Env) (s : Shared) (H : Hp) (E : XK), PSs (cxOf CX0 P w K mg base [("self" : Str), g1, g2] qual scope fI cdv A outer s H E) body (tSeq (tOst K f1 (tVar 0) (tVar 1)) (tOst K f2 (tVar 0) (tVar 2)))) : FnOk P w K mg base CX0 1 fI fd [("self" : Str), g1, g2] (spX2 C f1 f2) := by
  refine F.ok S (fun vs H Q E h => ?_) fun cdv A outer s H vs Q E hr h => ⟨_, hd cdv A outer s H E, ?_⟩
  · obtain ⟨a, v1, v2, rfl, _⟩ := h
    rfl
  · obtain ⟨a, v1, v2, rfl, ha, q⟩ := h
    refine ⟨v1, rfl, .ref a, rfl, a, C, rfl, T, n1, .inl ⟨ha, fun dx hx ne => ?_⟩⟩
    refine ⟨v2, rfl, .ref a, rfl, a, C, rfl, T, n2, .inr ⟨dx, [(f1, v1)], upd_same, ?_, (by show 1 ≤ 900; decide), ?_⟩⟩
    · rw [upd_ne ne, upd_same]
    · refine q dx _ hx ne ?_ upd_same fun b h1 h2 => ?_
      · rw [upd_ne ne.symm, upd_same]
      · rw [upd_ne h2, upd_ne h1, upd_ne h2]
/-- the law's own def: which def it is is told -/
def FxL (P : Program) (w : World) (K : PySem.W.Frag) (mg : Str → Option Value) (base : Heap) (k : Nat) (x : Str) (ps : List Str) (sp : Sp) (st : Stmt) : Prop :=
  ∃ f fd, mg x = some (.ref f) ∧ FunD K x x (defArgs st) (defBody st) (defScope st) [] [] f fd ∧ FnOk P w K mg base (L2.CX P w) k f fd ps sp
theorem FxL.of {x : Str} {ps N : List Str} {st : Stmt} {k : Nat} (D : Dx K mg x ps st) (S : FnScope N ps (defScope st)) (hl : ∀ ds r, R ds r → ds.length = ps.length)
    (hb : ∀ (f : Addr) (cdv : Value) (A : Around) (outer : List Env) (s : Shared) (H : Hp) (E : XK), Room k (A.deeper (envOfC x (defScope st) s.heap.objs.size f cdv)) →
      ∃ t, PSs (cxOf (L2.CX P w) P w K mg base N x (defScope st) f cdv A outer s H E).nox (defBody st) t ∧ ∀ ds r, R ds r → Does P w K E t (ds.map Sl.d ++ List.replicate (N.length - ds.length) Sl.u) r) :
    FxL P w K mg base (k + 1) x ps (spR P w K R) st := by
  obtain ⟨f, fd, h1, F, h3⟩ := D
  refine ⟨f, fd, h1, F, F.ok S (fun vs H Q E h => spR_len hl vs H Q E h) fun cdv A outer s H vs Q E hr h => ?_⟩
  obtain ⟨t, ht, hs⟩ := hb f cdv A outer s H E hr
  exact ⟨t, PSs.nox ht, run_r h hs⟩
end
end Qw

set_option maxHeartbeats 400000
namespace CC
open PySem PySem.Spec PyProof.Rows L2 Qw
open Evl hiding ea_cons
open Pw (Dt Rp RpL Wk R2d R1d RLd RLn Kq KqL truD flatD fl py pyL rangeD charsD spX2 Xm Xm0 tyD isI isB isS isTp isL rl_isInt rl_isBool rl_isStr rl_isTup rl_isList rl_int rl_max2 rl_min2 rl_len rl_lenT rl_tup rl_tupT rl_lenS rl_all rl_any rn_list rn_listT r2_I0 r2_B0 r2_eqI r2_neI r2_eqS r2_neS r2_eq r2_ne r2_I r2_inS r2_niS r2_in r2_inT r2_ixL r2_ixT r2_ixS r2_addS r2_eqD r2_neD r2_ixM r1_U ixN_at itemD cr_int cr_min2 cr_max2 cr_list cr_tuple cr_len pe_globI pe_globS pe_globR pe_tyname rTupS rInt1 rMin2)
local macro_rules | `(tactic| walk_at "side") => `(tactic| first
  | decide | omega | assumption | (show (0 : Int) < _; omega) | exact (show CDiv _ _ from ⟨by omega, by omega⟩) | exact (show CMul _ _ from Or.inr ⟨by omega, by omega⟩) | exact (show CMul _ _ from Or.inl ⟨by omega, by omega⟩) | exact (show CPow _ _ from ⟨by decide, by decide, by decide⟩))
local macro_rules | `(tactic| walk_at "op") => `(tactic| first
  | exact r2_I0 | exact r2_B0 | exact r2_eqI | exact r2_neI | exact r2_eqS | exact r2_neS
  | exact r2_eq rfl rfl rfl | exact r2_ne rfl rfl rfl
  | (refine' r2_I ?_; walk_at "side") | exact r2_inS | exact r2_niS)
local macro_rules | `(tactic| walk_at "rl") => `(tactic| first
  | exact rl_int | exact rl_max2 | exact rl_min2 | exact rl_len | exact rl_lenT | exact rl_isInt (by first | rfl | assumption) | exact rl_isBool (by first | rfl | assumption) | exact rl_isStr (by first | rfl | assumption) | exact rl_isTup (by first | rfl | assumption) | exact rl_isList (by first | rfl | assumption) | exact rl_tup | exact rl_tupT | (refine' rl_lenS ?_; walk_at "side"))
local macro_rules | `(tactic| walk_at "ap") => `(tactic| first
  | exact ap_nil
  | (refine' ap_cons ?eah ?eat; (case eah => walk_at "ep"); (case eat => walk_at "ap")))
local macro_rules | `(tactic| walk_at "ep") => `(tactic| first
  | exact ep_int | exact ep_bl | exact ep_str | exact ep_non | exact ep_ty | exact ep_var
  | (refine' ep_op ?eva ?evb ?evc; (case eva => walk_at "ep"); (case evb => walk_at "ep"); (case evc => walk_at "op"))
  | (refine' ep_cb ?evd ?eve; (case evd => walk_at "ap"); (case eve => walk_at "rl"))
  | (refine' ep_un ?evf r1_U; (case evf => walk_at "ep"))
  | (refine' ep_tup ?evg ?evi; (case evg => walk_at "ap"); (case evi => exact Nat.le_of_ble_eq_true rfl))
  | (refine' ep_lst ?evh ?evj; (case evh => walk_at "ap"); (case evj => exact Nat.le_of_ble_eq_true rfl))
  | assumption)
local macro_rules | `(tactic| walk_at "ee") => `(tactic| (refine' ee_p ?eep; (case eep => walk_at "ep")))
local macro_rules | `(tactic| walk_at "te") => `(tactic| (refine' te_p ?tep; (case tep => walk_at "tp")))
local macro_rules | `(tactic| walk_at "tp") => `(tactic| first
  | (refine' tp_test ?tea; (case tea => walk_at "ep"))
  | (refine' tp_B ?teb; (case teb => walk_at "ep"))
  | (refine' tp_not ?tec; (case tec => walk_at "tp"))
  | (refine' tp_or ?ted ?tee; (case ted => walk_at "tp"); (case tee => intro _; walk_at "tp"))
  | (refine' tp_and ?tef ?teg; (case tef => walk_at "tp"); (case teg => intro _; walk_at "tp"))
  | assumption)

def top (i : Nat) : Stmt := PySem.Challenge.pw_probewright_k02_parts_that_make_no_circu.main.body.getD i (.Pass ⟨0, 0, 0, 0⟩)
def bodyC (s : Stmt) : List Stmt := match s with | .ClassDef (body := bs) .. => bs | _ => []
def meth (i k : Nat) : Stmt := (bodyC (top i)).getD k (.Pass ⟨0, 0, 0, 0⟩)
def KIN : List Str := ["and", "or", "nand", "nor", "xor", "xnor", "not", "buf", "low", "high"]
abbrev gaC (K : PySem.W.Frag) : Addr := He.ga K "Circuit"
structure Txt (K : PySem.W.Frag) (mg : Str → Option Value) : Prop where
  f_all : mg "all" = none
  f_bool : mg "bool" = none
  f_int : mg "int" = none
  f_isinstance : mg "isinstance" = none
  f_len : mg "len" = none
  f_list : mg "list" = none
  f_max : mg "max" = none
  f_min : mg "min" = none
  f_range : mg "range" = none
  f_set : mg "set" = none
  f_sorted : mg "sorted" = none
  f_str : mg "str" = none
  f_tuple : mg "tuple" = none
  g_MOST_NAME : ∃ t, mg "MOST_NAME" = some (.int 12 t)
  g_MOST_PINS : ∃ t, mg "MOST_PINS" = some (.int 4 t)
  g_MOST_LINES : ∃ t, mg "MOST_LINES" = some (.int 400 t)
  g_MOST_SOURCES : ∃ t, mg "MOST_SOURCES" = some (.int 40 t)
  g__LETTERS : ∃ t, mg "_LETTERS" = some (.str "abcdefghijklmnopqrstuvwxyz" t)
  g__CHARACTERS : ∃ t, mg "_CHARACTERS" = some (.str "abcdefghijklmnopqrstuvwxyz0123456789_" t)
  g_KINDS : mg "KINDS" = some (.ref (He.ga K "KINDS"))
  t_KINDS : ∀ H, SqT K H (He.ga K "KINDS") (KIN.map V.str)
  k_Circuit : Cls K (He.ga K "Circuit")
  a_Circuit : ∀ f ∈ (["inputs", "registers", "gates", "outputs", "gate_of", "order"] : List Str), NoAttr K (He.ga K "Circuit") f
  c_BadCircuit : mg "BadCircuit" = some (.ref (He.ga K "BadCircuit"))
  x_BadCircuit : XfC K (He.ga K "BadCircuit")
  n_reason : PySem.W.findIn K (.ref (He.ga K "BadCircuit")) "reason" = some none
  n_name : PySem.W.findIn K (.ref (He.ga K "BadCircuit")) "name" = some none
  e_BadCircuit : PySem.W.exmOne K (.ref (He.ga K "BadCircuit")) (.ref (He.ga K "BadCircuit")) = some true

section
variable {P : Program} {w : World} {K : PySem.W.Frag} {mg : Str → Option Value} {base : Heap}

def LET : Str := "abcdefghijklmnopqrstuvwxyz"
def CHR : Str := "abcdefghijklmnopqrstuvwxyz0123456789_"
def nameB (x : Str) : Bool := match x.cps.toList with
  | [] => false
  | c :: _ => decide (x.length ≤ 12) && (decide (c ∈ LET.cps.toList) && x.cps.toList.all fun c => decide (c ∈ CHR.cps.toList))
def okS : Dt → Bool
  | .str x => decide (x.length ≤ 40000)
  | d => (tyD d).isSome
theorem okS_ty {v : Dt} (h : okS v = true) : (tyD v).isSome = true := by
  cases v <;> first | exact h | rfl
def isName : Dt → Bool
  | .str x => nameB x
  | _ => false
def R_is_name (ds : List Dt) (r : Rs) : Prop := ∃ v, ds = [v] ∧ okS v = true ∧ r = .d (.bl (isName v))
theorem l_is_name (ds : List Dt) (r : Rs) (h : R_is_name ds r) : ds.length = 1 := by
  obtain ⟨v, rfl, _⟩ := h
  rfl
theorem len_cps (x : Str) : x.length = x.cps.toList.length := by simp [Str.length]
theorem str_empty {x : Str} (h : x.cps.toList = []) : x = "" := by
  obtain ⟨c⟩ := x
  have : c = #[] := by
    cases c
    simp at h
    rw [h]
  rw [this]
  rfl
theorem str_ne {x : Str} {c : Nat} {r : List Nat} (h : x.cps.toList = c :: r) : x ≠ "" := by
  rintro rfl
  cases h
theorem at0 {x : Str} {c : Nat} {r : List Nat} (h : x.cps.toList = c :: r) : atI x.cps.toList 0 = some c := by
  rw [h]
  have e := ixN_nat (n := (c :: r).length) (j := 0) (by simp)
  show (ixN (c :: r).length 0).bind _ = _
  rw [show (0 : Int) = ((0 : Nat) : Int) from rfl, e]
  rfl
abbrev s_is_name : Stmt := top 11
abbrev N_is_name : List Str := ["value", "sign"]
theorem sc_is_name : FnScope N_is_name ["value"] (defScope s_is_name) := ⟨rfl, rfl, rfl, by decide +kernel, rfl, by decide +kernel, by decide +kernel⟩
theorem k_is_name (T : Txt K mg) (D : Dx K mg "is_name" ["value"] s_is_name)  : Fx P w K mg base 1 "is_name" ["value"] (spR P w K R_is_name) := by
  refine Fx.of D sc_is_name (l_is_name) fun f cdv A outer s H E hr => ?_
  refine ⟨_, (pss_cons (ps_if (PW.pt (pw_or (pt_not (pt_val (pe_callB call_isi (by rfl) T.f_isinstance (by decide +kernel) (pa_cons (pv 0) (pa_cons (pe_tyname (n := "str") T.f_str) pa_nil))))) (pw_or1 (pt_cmpR op_eq (pv 0) pe_str (nomark _))))) (pss_one (ps_ret pe_bl)) pss_nil)
      (pss_cons (ps_if (PW.pt (pw_or (pt_cmpR op_gt (pe_callB call_len_str (by rfl) T.f_len PySem.boot_len (pa_cons (pv 0) pa_nil)) (pe_globI T.g_MOST_NAME) (nomark _)) (pw_or1 (pt_cmpR op_notInS (pe_ix ix_str (pv 0) pe_int (fun _ _ => rfl)) (pe_globS T.g__LETTERS) rfl)))) (pss_one (ps_ret pe_bl)) pss_nil)
      (pss_one (ps_ret (pe_callB (cr_all rfl) (by rfl) T.f_all (by decide +kernel) (pa_cons (pe_lc (own := [("sign", 1)]) (g := gName 1) (tt := tYes) rfl sc_is_name.nd (pi_str (pv 0)) (blkOk_by (N := N_is_name) (sc := defScope s_is_name) (by decide +kernel)) (fun _ _ _ _ _ => (pgn (i := 1) sc_is_name.nd)) (fun _ _ _ _ _ => pts_nil) (fun _ _ _ _ _ => (pe_cmpR op_inS (pv 1) (pe_globS T.g__CHARACTERS) rfl))) pa_nil)))))), ?_⟩
  rintro ds r ⟨v, rfl, hv, rfl⟩
  left
  show Se P w K _ [.d v, .u] _
  have ht := okS_ty hv
  cases hT : isS v with
  | false =>
    refine se_when (b := true) (te_p (tp_or (a := true) (b := true) (tp_is (tp_not (a := isS v) (by walk_at "tp")) (by rw [hT]; rfl)) (fun z => nomatch z))) (fun _ => ?_) (fun z => nomatch z)
    refine se_seqF (se_ret (ee_p (ep_is ep_bl ?_)))
    cases v <;> first | rfl | cases hT
  | true =>
    cases v <;> first | cases hT | skip
    rename_i x
    have hl : x.length ≤ 40000 := of_decide_eq_true hv
    refine se_when (b := decide (x = "")) (te_p (tp_is (tp_or (tp_not (by walk_at "tp")) (fun _ => by walk_at "tp")) rfl)) (fun hb => ?_) (fun hb => ?_)
    · refine se_seqF (se_ret (ee_p (ep_is ep_bl ?_)))
      have := of_decide_eq_true hb
      subst this
      rfl
    · cases hx : x.cps.toList with
      | nil =>
        rw [str_empty hx] at hb
        cases hb
      | cons c r =>
        refine se_when (b := decide ((12 : Int) < x.length) || !decide (c ∈ LET.cps.toList)) (te_p (tp_or (by walk_at "tp") fun _ => tp_test (ep_op (ep_op ep_var ep_int (r2_ixS (by omega) (at0 hx))) ep_str r2_niS))) (fun hb => ?_) (fun hb => ?_)
        · refine se_seqF (se_ret (ee_p (ep_is ep_bl ?_)))
          show _ = Dt.bl (nameB x)
          unfold nameB
          rw [hx]
          simp only [Bool.or_eq_true, decide_eq_true_eq, Bool.not_eq_true', decide_eq_false_iff_not] at hb
          congr 1
          symm
          simp only [Bool.and_eq_false_iff, decide_eq_false_iff_not]
          rcases hb with hb | hb
          · left; omega
          · right; left; exact hb
        · refine se_ret (ee_p (ep_is (ep_cb (ap_cons (ep_is (ep_new (np_mapT x.cps.toList (fun c => Dt.str ⟨#[c]⟩) (ip_str ep_var) (by rw [← len_cps]; exact hl) (fun c => .bl (decide (c ∈ CHR.cps.toList))) fun i c hc => ep_op ep_var ep_str r2_inS)) (e := .lst ((x.cps.toList.map fun c => decide (c ∈ CHR.cps.toList)).map .bl)) (by rw [List.map_map]; rfl)) ap_nil) rl_all) ?_))
          simp only [Bool.or_eq_false_iff, decide_eq_false_iff_not, Bool.not_eq_false', decide_eq_true_eq] at hb
          show _ = Dt.bl (nameB x)
          unfold nameB
          rw [hx]
          simp only [List.all_map]
          have h1 : decide (x.length ≤ 12) = true := decide_eq_true (by omega)
          rw [h1, decide_eq_true hb.2]
          simp
def mayHave (k : Str) (n : Int) : Bool := if k = "low" ∨ k = "high" then decide (n = 0) else if k = "not" ∨ k = "buf" then decide (n = 1) else decide (1 ≤ n) && decide (n ≤ 4)
def R_may_have (ds : List Dt) (r : Rs) : Prop := ∃ k n, ds = [.str k, .int n] ∧ r = .d (.bl (mayHave k n))
theorem l_may_have (ds : List Dt) (r : Rs) (h : R_may_have ds r) : ds.length = 2 := by
  obtain ⟨k, n, rfl, _⟩ := h
  rfl
theorem in2 (k a b : Str) : inV (V.str k) [V.str a, V.str b] = decide (k = a ∨ k = b) := by
  unfold inV
  simp only [List.any_cons, List.any_nil, Bool.or_false]
  have h : ∀ a : Str, eqV (V.str a) (V.str k) = decide (k = a) := fun a => by
    simp only [eqV]
    by_cases e : k = a
    · subst e; simp
    · simp [e, Ne.symm e]
  rw [h, h]
  simp
abbrev s_may_have : Stmt := top 14
abbrev N_may_have : List Str := ["kind", "count"]
theorem sc_may_have : FnScope N_may_have ["kind", "count"] (defScope s_may_have) := ⟨rfl, rfl, rfl, by decide +kernel, rfl, by decide +kernel, by decide +kernel⟩
theorem k_may_have (T : Txt K mg) (D : Dx K mg "_may_have" ["kind", "count"] s_may_have)  : Fx P w K mg base 1 "_may_have" ["kind", "count"] (spR P w K R_may_have) := by
  refine Fx.of D sc_may_have (l_may_have) fun f cdv A outer s H E hr => ?_
  refine ⟨_, (pss_cons (ps_if (pt_cmpR op_in_seq (pv 0) (pe_tup (pa_cons pe_str (pa_cons pe_str pa_nil))) rfl) (pss_one (ps_ret (pe_cmpR op_eq (pv 1) pe_int (nomark _)))) pss_nil)
      (pss_cons (ps_if (pt_cmpR op_in_seq (pv 0) (pe_tup (pa_cons pe_str (pa_cons pe_str pa_nil))) rfl) (pss_one (ps_ret (pe_cmpR op_eq (pv 1) pe_int (nomark _)))) pss_nil)
      (pss_one (ps_ret (pe_chain op_le op_le pe_int (pv 1) (pe_globI T.g_MOST_PINS)))))), ?_⟩
  rintro ds r ⟨k, n, rfl, rfl⟩
  left
  show Se P w K _ [.d (.str k), .d (.int n)] _
  have hin : ∀ {env : En} (a b : Str), env[0]? = some (.d (.str k)) → Tp P w K (tTest (tOp (rIn K false) (tVar 0) (tTup (tCons (tC (.str a)) (tCons (tC (.str b)) tNil))))) env (decide (k = a ∨ k = b)) := fun a b h0 =>
    tp_is (tp_test (ep_op (ep_var h0) (ep_tup (ap_cons ep_str (ap_cons ep_str ap_nil)) (Nat.le_of_ble_eq_true rfl)) (r2_inT rfl rfl rfl rfl))) (in2 k a b)
  refine se_when (te_p (hin "low" "high" rfl)) (fun hb => ?_) (fun hb => ?_)
  · refine se_seqF (se_ret (ee_p (ep_is (by walk_at "ep") ?_)))
    unfold mayHave
    rw [if_pos (of_decide_eq_true hb)]
  · refine se_when (te_p (hin "not" "buf" rfl)) (fun hb2 => ?_) (fun hb2 => ?_)
    · refine se_seqF (se_ret (ee_p (ep_is (by walk_at "ep") ?_)))
      unfold mayHave
      rw [if_neg (of_decide_eq_false hb), if_pos (of_decide_eq_true hb2)]
    · refine se_ret (ee_p (ep_is (ep_chain ep_int ep_var r2_B0 (fun _ => ep_int) fun _ => r2_B0) ?_))
      unfold mayHave
      rw [if_neg (of_decide_eq_false hb), if_neg (of_decide_eq_false hb2)]
def R_are_names (ds : List Dt) (r : Rs) : Prop := ∃ xs, (ds = [.tup xs] ∨ ds = [.lst xs]) ∧ xs.length ≤ 40000 ∧ xs.all okS = true ∧ r = .d (.bl (xs.all isName))
theorem l_are_names (ds : List Dt) (r : Rs) (h : R_are_names ds r) : ds.length = 1 := by
  obtain ⟨xs, rfl | rfl, _⟩ := h <;> rfl
abbrev s_are_names : Stmt := top 15
abbrev N_are_names : List Str := ["items", "item"]
theorem sc_are_names : FnScope N_are_names ["items"] (defScope s_are_names) := ⟨rfl, rfl, rfl, by decide +kernel, rfl, by decide +kernel, by decide +kernel⟩
theorem k_are_names (T : Txt K mg) (D : Dx K mg "_are_names" ["items"] s_are_names)  (G_is_name : Fx P w K mg base 1 "is_name" ["value"] (spR P w K R_is_name)) : Fx P w K mg base 2 "_are_names" ["items"] (spR P w K R_are_names) := by
  refine Fx.of D sc_are_names (l_are_names) fun f cdv A outer s H E hr => ?_
  refine ⟨_, (pss_one (ps_ret (pe_callB (cr_all rfl) (by rfl) T.f_all (by decide +kernel) (pa_cons (pe_lc (own := [("item", 1)]) (g := gName 1) (tt := tYes) rfl sc_are_names.nd (pi_seq (pv 0)) (blkOk_by (N := N_are_names) (sc := defScope s_are_names) (by decide +kernel)) (fun _ _ _ _ _ => (pgn (i := 1) sc_are_names.nd)) (fun _ _ _ _ _ => pts_nil) (fun _ _ _ _ _ => (pe_fx G_is_name (hr.mono (by decide)) (pa_cons (pv 1) pa_nil)))) pa_nil)))), ?_⟩
  rintro ds r ⟨xs, h, hl, ho, rfl⟩
  left
  obtain ⟨v, rfl, hI⟩ : ∃ v, ds = [v] ∧ Ip P w K (iSeq K (tVar 0)) [.d v, .u] xs := by
    rcases h with rfl | rfl
    · exact ⟨_, rfl, ip_seqT ep_var⟩
    · exact ⟨_, rfl, ip_seqL ep_var⟩
  exact se_ret (ee_p (ep_is (ep_cb (ap_cons (ep_is (ep_new (np_map hI hl (fun d => .bl (isName d)) fun d hd => ep_call (ap_cons ep_var ap_nil) ⟨d, rfl, List.all_eq_true.mp ho d hd, rfl⟩)) (e := .lst ((xs.map isName).map .bl)) (by rw [List.map_map]; rfl)) ap_nil) rl_all) (by rw [List.all_map]; rfl)))
def isReg : Dt → Bool
  | .tup xs => decide (xs.length = 2) && xs.all isName
  | _ => false
def okR : Dt → Bool
  | .tup xs => decide (xs.length ≤ 40000) && xs.all okS
  | d => (tyD d).isSome
theorem okR_ty {v : Dt} (h : okR v = true) : (tyD v).isSome = true := by
  cases v <;> first | exact h | rfl
def R_is_register (ds : List Dt) (r : Rs) : Prop := ∃ v, ds = [v] ∧ okR v = true ∧ r = .d (.bl (isReg v))
theorem l_is_register (ds : List Dt) (r : Rs) (h : R_is_register ds r) : ds.length = 1 := by
  obtain ⟨xs, rfl, _⟩ := h
  rfl
abbrev s_is_register : Stmt := top 16
abbrev N_is_register : List Str := ["value"]
theorem sc_is_register : FnScope N_is_register ["value"] (defScope s_is_register) := ⟨rfl, rfl, rfl, by decide +kernel, rfl, by decide +kernel, by decide +kernel⟩
theorem k_is_register (T : Txt K mg) (D : Dx K mg "_is_register" ["value"] s_is_register)  (G__are_names : Fx P w K mg base 2 "_are_names" ["items"] (spR P w K R_are_names)) : Fx P w K mg base 3 "_is_register" ["value"] (spR P w K R_is_register) := by
  refine Fx.of D sc_is_register (l_is_register) fun f cdv A outer s H E hr => ?_
  refine ⟨_, (pss_one (ps_ret (pe_and (pe_callB call_isi (by rfl) T.f_isinstance (by decide +kernel) (pa_cons (pv 0) (pa_cons (pe_tyname (n := "tuple") T.f_tuple) pa_nil))) (pe_and (pe_cmpR op_eq (pe_callB cr_len (by rfl) T.f_len PySem.boot_len (pa_cons (pv 0) pa_nil)) pe_int (nomark _)) (pe_one (pe_fx G__are_names (hr.mono (by decide)) (pa_cons (pv 0) pa_nil))))))), ?_⟩
  rintro ds r ⟨v, rfl, ho, rfl⟩
  left
  show Se P w K _ [.d v] _
  have ht := okR_ty ho
  refine se_ret (ee_p ?_)
  cases hT : isTp v with
  | false =>
    refine ep_is (ep_and (a := false) (b := true) (ep_is (by walk_at "ep") (by rw [hT])) (fun z => nomatch z)) ?_
    cases v <;> first | rfl | cases hT
  | true =>
    cases v <;> first | cases hT | skip
    rename_i xs
    obtain ⟨h1, h2⟩ := Bool.and_eq_true_iff.mp ho
    refine ep_is (ep_and (a := true) (ep_is (by walk_at "ep") rfl) fun _ => ep_and (by walk_at "ep") fun _ => ep_call (ap_cons ep_var ap_nil) ⟨xs, .inl rfl, of_decide_eq_true h1, h2, rfl⟩) ?_
    show Dt.bl (true && (decide ((xs.length : Int) = 2) && xs.all isName)) = Dt.bl (decide (xs.length = 2) && xs.all isName)
    rw [Bool.true_and]
    congr 2
    exact decide_eq_decide.mpr (by omega)
end
end CC

set_option maxHeartbeats 400000
namespace CC
open PySem PySem.Spec PyProof.Rows L2 Qw
open Evl hiding ea_cons
open Pw (Dt Rp RpL Wk R2d R1d RLd RLn Kq KqL truD flatD fl py pyL rangeD charsD spX2 Xm Xm0 tyD isI isB isS isTp isL rl_isInt rl_isBool rl_isStr rl_isTup rl_isList rl_int rl_max2 rl_min2 rl_len rl_lenT rl_tup rl_tupT rl_lenS rl_all rl_any rn_list rn_listT r2_I0 r2_B0 r2_eqI r2_neI r2_eqS r2_neS r2_eq r2_ne r2_I r2_inS r2_niS r2_in r2_inT r2_ixL r2_ixT r2_ixS r2_addS r2_eqD r2_neD r2_ixM r1_U ixN_at itemD cr_int cr_min2 cr_max2 cr_list cr_tuple cr_len pe_globI pe_globS pe_globR pe_tyname rTupS rInt1 rMin2)
local macro_rules | `(tactic| walk_at "side") => `(tactic| first
  | decide | omega | assumption | (show (0 : Int) < _; omega) | exact (show CDiv _ _ from ⟨by omega, by omega⟩) | exact (show CMul _ _ from Or.inr ⟨by omega, by omega⟩) | exact (show CMul _ _ from Or.inl ⟨by omega, by omega⟩) | exact (show CPow _ _ from ⟨by decide, by decide, by decide⟩))
local macro_rules | `(tactic| walk_at "op") => `(tactic| first
  | exact r2_I0 | exact r2_B0 | exact r2_eqI | exact r2_neI | exact r2_eqS | exact r2_neS
  | exact r2_eq rfl rfl rfl | exact r2_ne rfl rfl rfl
  | (refine' r2_I ?_; walk_at "side") | exact r2_inS | exact r2_niS)
local macro_rules | `(tactic| walk_at "rl") => `(tactic| first
  | exact rl_int | exact rl_max2 | exact rl_min2 | exact rl_len | exact rl_lenT | exact rl_isInt (by first | rfl | assumption) | exact rl_isBool (by first | rfl | assumption) | exact rl_isStr (by first | rfl | assumption) | exact rl_isTup (by first | rfl | assumption) | exact rl_isList (by first | rfl | assumption) | exact rl_tup | exact rl_tupT | (refine' rl_lenS ?_; walk_at "side"))
local macro_rules | `(tactic| walk_at "ap") => `(tactic| first
  | exact ap_nil
  | (refine' ap_cons ?eah ?eat; (case eah => walk_at "ep"); (case eat => walk_at "ap")))
local macro_rules | `(tactic| walk_at "ep") => `(tactic| first
  | exact ep_int | exact ep_bl | exact ep_str | exact ep_non | exact ep_ty | exact ep_var
  | (refine' ep_op ?eva ?evb ?evc; (case eva => walk_at "ep"); (case evb => walk_at "ep"); (case evc => walk_at "op"))
  | (refine' ep_cb ?evd ?eve; (case evd => walk_at "ap"); (case eve => walk_at "rl"))
  | (refine' ep_un ?evf r1_U; (case evf => walk_at "ep"))
  | (refine' ep_tup ?evg ?evi; (case evg => walk_at "ap"); (case evi => exact Nat.le_of_ble_eq_true rfl))
  | (refine' ep_lst ?evh ?evj; (case evh => walk_at "ap"); (case evj => exact Nat.le_of_ble_eq_true rfl))
  | assumption)
local macro_rules | `(tactic| walk_at "ee") => `(tactic| (refine' ee_p ?eep; (case eep => walk_at "ep")))
local macro_rules | `(tactic| walk_at "te") => `(tactic| (refine' te_p ?tep; (case tep => walk_at "tp")))
local macro_rules | `(tactic| walk_at "tp") => `(tactic| first
  | (refine' tp_test ?tea; (case tea => walk_at "ep"))
  | (refine' tp_B ?teb; (case teb => walk_at "ep"))
  | (refine' tp_not ?tec; (case tec => walk_at "tp"))
  | (refine' tp_or ?ted ?tee; (case ted => walk_at "tp"); (case tee => intro _; walk_at "tp"))
  | (refine' tp_and ?tef ?teg; (case tef => walk_at "tp"); (case teg => intro _; walk_at "tp"))
  | assumption)
section
variable {P : Program} {w : World} {K : PySem.W.Frag} {mg : Str → Option Value} {base : Heap}

/-! ### is_gate -/
def isGate : Dt → Bool
  | .tup [l, .str k, .tup ps] => decide (k ∈ KIN) && (mayHave k ps.length && (isName l && ps.all isName))
  | _ => false
/-- the third part: a tuple of things that may be asked for names, or what is no tuple -/
def okP : Dt → Bool
  | .tup ps => decide (ps.length ≤ 30000) && ps.all okS
  | d => (tyD d).isSome
def okG : Dt → Bool
  | .tup [l, k, p] => okS l && ((tyD k).isSome && okP p)
  | d => (tyD d).isSome
theorem okG_ty {v : Dt} (h : okG v = true) : (tyD v).isSome = true := by
  unfold okG at h
  split at h
  · rfl
  · exact h
theorem okP_ty {v : Dt} (h : okP v = true) : (tyD v).isSome = true := by
  cases v <;> first | exact h | rfl
def R_is_gate (ds : List Dt) (r : Rs) : Prop := ∃ v, ds = [v] ∧ okG v = true ∧ r = .d (.bl (isGate v))
theorem l_is_gate (ds : List Dt) (r : Rs) (h : R_is_gate ds r) : ds.length = 1 := by
  obtain ⟨xs, rfl, _⟩ := h
  rfl
theorem eqV_str (a k : Str) : eqV (V.str a) (V.str k) = decide (k = a) := by
  simp only [eqV]
  by_cases e : k = a
  · subst e; simp
  · simp [e, Ne.symm e]
theorem inV_strs (k : Str) (xs : List Str) : inV (V.str k) (xs.map V.str) = decide (k ∈ xs) := by
  unfold inV
  induction xs with
  | nil => simp
  | cons a xs ih =>
    rw [List.map_cons, List.any_cons, ih, eqV_str]
    simp
theorem fl_strs (xs : List Str) : (xs.map Dt.str).map Pw.fl = xs.map V.str := by
  rw [List.map_map]
  rfl
theorem flat_strsD (xs : List Str) : (xs.map Dt.str).all flatD = true := by
  simp [flatD]
theorem flat_strsV (xs : List Str) : ((xs.map Dt.str).map Pw.fl).all flatV = true := by
  rw [fl_strs]
  induction xs with
  | nil => rfl
  | cons a xs ih => exact ih
theorem se_no {s2 : TS} {env : En} {b : Bool} (h : b = false) : Se P w K (tSeq (tRet (tC (.bl false))) s2) env (.rt (.bl b)) := se_seqF (se_ret (ee_p (ep_is ep_bl (by rw [h]))))
theorem ep_kinds (T : Txt K mg) {env : En} : Ep P w K (tC (.ref (He.ga K "KINDS"))) env (.tup (KIN.map Dt.str)) := ep_c (rp_wr T.t_KINDS fun F => rpl_strs KIN)
abbrev s_is_gate : Stmt := top 17
abbrev N_is_gate : List Str := ["value", "line", "kind", "pins"]
theorem sc_is_gate : FnScope N_is_gate ["value"] (defScope s_is_gate) := ⟨rfl, rfl, rfl, by decide +kernel, rfl, by decide +kernel, by decide +kernel⟩
theorem k_is_gate (T : Txt K mg) (D : Dx K mg "is_gate" ["value"] s_is_gate)  (G__may_have : Fx P w K mg base 1 "_may_have" ["kind", "count"] (spR P w K R_may_have)) (G__are_names : Fx P w K mg base 2 "_are_names" ["items"] (spR P w K R_are_names)) : Fx P w K mg base 3 "is_gate" ["value"] (spR P w K R_is_gate) := by
  refine Fx.of D sc_is_gate (l_is_gate) fun f cdv A outer s H E hr => ?_
  refine ⟨_, (pss_cons (ps_if (PW.pt (pw_or (pt_not (pt_val (pe_callB call_isi (by rfl) T.f_isinstance (by decide +kernel) (pa_cons (pv 0) (pa_cons (pe_tyname (n := "tuple") T.f_tuple) pa_nil))))) (pw_or1 (pt_cmpR op_ne (pe_callB cr_len (by rfl) T.f_len PySem.boot_len (pa_cons (pv 0) pa_nil)) pe_int (nomark _))))) (pss_one (ps_ret pe_bl)) pss_nil)
      (pss_cons (ps_asg (pv 0) (pg_tup rfl (pgs_cons (pgn (i := 1) sc_is_gate.nd) (pgs_cons (pgn (i := 2) sc_is_gate.nd) (pgs_cons (pgn (i := 3) sc_is_gate.nd) pgs_nil)))))
      (pss_cons (ps_if (PW.pt (pw_or (pt_not (pt_val (pe_callB call_isi (by rfl) T.f_isinstance (by decide +kernel) (pa_cons (pv 2) (pa_cons (pe_tyname (n := "str") T.f_str) pa_nil))))) (pw_or1 (pt_cmpR op_notIn_seq (pv 2) (pe_globR T.g_KINDS) rfl)))) (pss_one (ps_ret pe_bl)) pss_nil)
      (pss_cons (ps_if (PW.pt (pw_or (pt_not (pt_val (pe_callB call_isi (by rfl) T.f_isinstance (by decide +kernel) (pa_cons (pv 3) (pa_cons (pe_tyname (n := "tuple") T.f_tuple) pa_nil))))) (pw_or1 (pt_not (pt_val (pe_fx G__may_have (hr.mono (by decide)) (pa_cons (pv 2) (pa_cons (pe_callB cr_len (by rfl) T.f_len PySem.boot_len (pa_cons (pv 3) pa_nil)) pa_nil)))))))) (pss_one (ps_ret pe_bl)) pss_nil)
      (pss_one (ps_ret (pe_fx G__are_names (hr.mono (by decide)) (pa_cons (pe_lst (pa_cons (pv 1) (StX.pa_star (pv 3) pa_nil))) pa_nil)))))))), ?_⟩
  rintro ds r ⟨v, rfl, ho, rfl⟩
  left
  show Se P w K _ [.d v, .u, .u, .u] _
  have ht := okG_ty ho
  cases hT : isTp v with
  | false =>
    refine se_when (b := true) (te_p (tp_or (a := true) (b := true) (tp_is (tp_not (a := isTp v) (by walk_at "tp")) (by rw [hT]; rfl)) (fun z => nomatch z))) (fun _ => se_no ?_) (fun z => nomatch z)
    cases v <;> first | rfl | cases hT
  | true =>
    cases v <;> first | cases hT | skip
    rename_i xs
    refine se_when (b := !decide ((xs.length : Int) = 3)) (te_p (tp_is (tp_or (a := false) (tp_is (tp_not (a := true) (by walk_at "tp")) rfl) (fun _ => by walk_at "tp")) rfl)) (fun hb => se_no ?_) (fun hb => ?_)
    · have hb : ¬ (xs.length : Int) = 3 := by simpa using hb
      unfold isGate
      split
      · rename_i e
        cases e
        exact absurd rfl hb
      · rfl
    · have hb : (xs.length : Int) = 3 := by simpa using hb
      obtain ⟨l, k, p, rfl⟩ : ∃ l k p, xs = [l, k, p] := by
        match xs, hb with
        | [l, k, p], _ => exact ⟨l, k, p, rfl⟩
      obtain ⟨hl, hk, hp⟩ : okS l = true ∧ (tyD k).isSome = true ∧ okP p = true := by
        have h := ho
        simp only [okG, Bool.and_eq_true] at h
        exact h
      have hpt := okP_ty hp
      refine se_seq (se_asgG (ee_p ep_var) (ge_tup (gs_cons ge_name (gs_cons ge_name (gs_cons ge_name gs_nil))))) ?_
      show Se P w K _ [.d _, .d l, .d k, .d p] _
      cases hS : isS k with
      | false =>
        refine se_when (b := true) (te_p (tp_or (a := true) (b := true) (tp_is (tp_not (a := isS k) (by walk_at "tp")) (by rw [hS]; rfl)) (fun z => nomatch z))) (fun _ => se_no ?_) (fun z => nomatch z)
        cases k <;> first | rfl | cases hS
      | true =>
        obtain ⟨k, rfl⟩ : ∃ x, k = .str x := by cases k <;> first | exact ⟨_, rfl⟩ | cases hS
        refine se_when (b := !decide (k ∈ KIN)) (te_p (tp_is (tp_or (a := false) (tp_is (tp_not (a := true) (by walk_at "tp")) rfl) (fun _ => tp_is (tp_test (ep_op ep_var (ep_kinds T) (r2_inT (neg := true) rfl (flat_strsD KIN) rfl (flat_strsV KIN)))) (by rw [fl_strs]; exact congrArg (!·) (inV_strs k KIN)))) rfl)) (fun hb => se_no ?_) (fun hb => ?_)
        · have hnk : decide (k ∈ KIN) = false := by simpa using hb
          unfold isGate
          split
          · rename_i e
            cases e
            rw [hnk, Bool.false_and]
          · rfl
        · have hkin : k ∈ KIN := by simpa using hb
          cases hT2 : isTp p with
          | false =>
            refine se_when (b := true) (te_p (tp_or (a := true) (b := true) (tp_is (tp_not (a := isTp p) (by walk_at "tp")) (by rw [hT2]; rfl)) (fun z => nomatch z))) (fun _ => se_no ?_) (fun z => nomatch z)
            cases p <;> first | rfl | cases hT2
          | true =>
            obtain ⟨ps, rfl⟩ : ∃ x, p = .tup x := by cases p <;> first | exact ⟨_, rfl⟩ | cases hT2
            obtain ⟨hp1, hp2⟩ : decide (ps.length ≤ 30000) = true ∧ ps.all okS = true := by
              have h := hp
              simp only [okP, Bool.and_eq_true] at h
              exact h
            have hp1 := of_decide_eq_true hp1
            refine se_when (b := !mayHave k ps.length) (te_p (tp_is (tp_or (a := false) (tp_is (tp_not (a := true) (by walk_at "tp")) rfl) (fun _ => tp_not (tp_B (ep_call (ap_cons ep_var (ap_cons (by walk_at "ep") ap_nil)) ⟨k, ps.length, rfl, rfl⟩)))) rfl)) (fun hb => se_no ?_) (fun hb => ?_)
            · have hb : mayHave k ps.length = false := by simpa using hb
              show (decide (k ∈ KIN) && (mayHave k ps.length && (isName l && ps.all isName))) = false
              rw [hb, Bool.false_and, Bool.and_false]
            · have hb : mayHave k ps.length = true := by simpa using hb
              refine se_ret (ee_p (ep_is (ep_call (ap_cons (ep_lst (ap_cons ep_var (ap_starT ep_var ap_nil)) (by simp; omega)) ap_nil) ⟨l :: (ps ++ []), .inr rfl, by simp; omega, by simp [hl, hp2], rfl⟩) ?_))
              show _ = Dt.bl (decide (k ∈ KIN) && (mayHave k ps.length && (isName l && ps.all isName)))
              rw [hb, decide_eq_true hkin, List.append_nil, List.all_cons]
              simp
end
end CC

set_option maxHeartbeats 400000
namespace CC
open PySem PySem.Spec PyProof.Rows L2 Qw
open Evl hiding ea_cons
open Pw (Dt Rp RpL Wk R2d R1d RLd RLn Kq KqL truD flatD fl py pyL rangeD charsD spX2 Xm Xm0 tyD isI isB isS isTp isL rl_isInt rl_isBool rl_isStr rl_isTup rl_isList rl_int rl_max2 rl_min2 rl_len rl_lenT rl_tup rl_tupT rl_lenS rl_all rl_any rn_list rn_listT r2_I0 r2_B0 r2_eqI r2_neI r2_eqS r2_neS r2_eq r2_ne r2_I r2_inS r2_niS r2_in r2_inT r2_ixL r2_ixT r2_ixS r2_addS r2_eqD r2_neD r2_ixM r1_U ixN_at itemD cr_int cr_min2 cr_max2 cr_list cr_tuple cr_len pe_globI pe_globS pe_globR pe_tyname rTupS rInt1 rMin2)
local macro_rules | `(tactic| walk_at "side") => `(tactic| first
  | decide | omega | assumption | (show (0 : Int) < _; omega) | exact (show CDiv _ _ from ⟨by omega, by omega⟩) | exact (show CMul _ _ from Or.inr ⟨by omega, by omega⟩) | exact (show CMul _ _ from Or.inl ⟨by omega, by omega⟩) | exact (show CPow _ _ from ⟨by decide, by decide, by decide⟩))
local macro_rules | `(tactic| walk_at "op") => `(tactic| first
  | exact r2_I0 | exact r2_B0 | exact r2_eqI | exact r2_neI | exact r2_eqS | exact r2_neS
  | exact r2_eq rfl rfl rfl | exact r2_ne rfl rfl rfl
  | (refine' r2_I ?_; walk_at "side") | exact r2_inS | exact r2_niS)
local macro_rules | `(tactic| walk_at "rl") => `(tactic| first
  | exact rl_int | exact rl_max2 | exact rl_min2 | exact rl_len | exact rl_lenT | exact rl_isInt (by first | rfl | assumption) | exact rl_isBool (by first | rfl | assumption) | exact rl_isStr (by first | rfl | assumption) | exact rl_isTup (by first | rfl | assumption) | exact rl_isList (by first | rfl | assumption) | exact rl_tup | exact rl_tupT | (refine' rl_lenS ?_; walk_at "side"))
local macro_rules | `(tactic| walk_at "ap") => `(tactic| first
  | exact ap_nil
  | (refine' ap_cons ?eah ?eat; (case eah => walk_at "ep"); (case eat => walk_at "ap")))
local macro_rules | `(tactic| walk_at "ep") => `(tactic| first
  | exact ep_int | exact ep_bl | exact ep_str | exact ep_non | exact ep_ty | exact ep_var
  | (refine' ep_op ?eva ?evb ?evc; (case eva => walk_at "ep"); (case evb => walk_at "ep"); (case evc => walk_at "op"))
  | (refine' ep_cb ?evd ?eve; (case evd => walk_at "ap"); (case eve => walk_at "rl"))
  | (refine' ep_un ?evf r1_U; (case evf => walk_at "ep"))
  | (refine' ep_tup ?evg ?evi; (case evg => walk_at "ap"); (case evi => exact Nat.le_of_ble_eq_true rfl))
  | (refine' ep_lst ?evh ?evj; (case evh => walk_at "ap"); (case evj => exact Nat.le_of_ble_eq_true rfl))
  | assumption)
local macro_rules | `(tactic| walk_at "ee") => `(tactic| (refine' ee_p ?eep; (case eep => walk_at "ep")))
local macro_rules | `(tactic| walk_at "te") => `(tactic| (refine' te_p ?tep; (case tep => walk_at "tp")))
local macro_rules | `(tactic| walk_at "tp") => `(tactic| first
  | (refine' tp_test ?tea; (case tea => walk_at "ep"))
  | (refine' tp_B ?teb; (case teb => walk_at "ep"))
  | (refine' tp_not ?tec; (case tec => walk_at "tp"))
  | (refine' tp_or ?ted ?tee; (case ted => walk_at "tp"); (case tee => intro _; walk_at "tp"))
  | (refine' tp_and ?tef ?teg; (case tef => walk_at "tp"); (case teg => intro _; walk_at "tp"))
  | assumption)
section
variable {P : Program} {w : World} {K : PySem.W.Frag} {mg : Str → Option Value} {base : Heap}

/-! ### the checks -/
def badC (K : PySem.W.Frag) (reason name : Str) : Xn := ⟨He.ga K "BadCircuit", ["name", "reason"], [.str name, .str reason]⟩
def R_check_form (K : PySem.W.Frag) (ds : List Dt) (r : Rs) : Prop := ∃ is rs gs os, ds = [.tup is, .tup rs, .tup gs, .tup os] ∧ (is.length ≤ 40000 ∧ rs.length ≤ 40000 ∧ gs.length ≤ 40000 ∧ os.length ≤ 40000) ∧ (is.all okS = true ∧ rs.all okR = true ∧ gs.all okG = true ∧ os.all okS = true) ∧
  r = if (is.all isName && (os.all isName && (rs.all isReg && gs.all isGate))) = true then .d .non else .x (badC K "form" "")
theorem l_check_form (K : PySem.W.Frag) (ds : List Dt) (r : Rs) (h : R_check_form K ds r) : ds.length = 4 := by
  obtain ⟨is, rs, gs, os, rfl, _⟩ := h
  rfl
theorem does_rz {E : XK} {s : TS} {env : En} {x : Xn} {e : En} (h : Se P w K s env (.rz (fun cls d _ H => E cls d H) x e)) : Does P w K E s env (.x x) := ⟨e, h⟩
theorem does_nx {E : XK} {s : TS} {env : En} {e : En} (h : Se P w K s env (.nx e)) : Does P w K E s env (.d .non) := .inr ⟨rfl, e, h⟩
theorem does_if {E : XK} {s : TS} {env : En} {x : Xn} {e : En} {c : Prop} [Decidable c] (h : Se P w K s env (if c then .nx e else .rz (fun cls d _ H => E cls d H) x e)) : Does P w K E s env (if c then .d .non else .x x) := by
  split at h
  · rename_i z
    rw [if_pos z]
    exact does_nx h
  · rename_i z
    rw [if_neg z]
    exact does_rz h
abbrev s_check_form : Stmt := top 18
abbrev N_check_form : List Str := ["inputs", "registers", "gates", "outputs", "item"]
theorem sc_check_form : FnScope N_check_form ["inputs", "registers", "gates", "outputs"] (defScope s_check_form) := ⟨rfl, rfl, rfl, by decide +kernel, rfl, by decide +kernel, by decide +kernel⟩
theorem k_check_form (T : Txt K mg) (D : Dx K mg "_check_form" ["inputs", "registers", "gates", "outputs"] s_check_form)  (G__are_names : Fx P w K mg base 2 "_are_names" ["items"] (spR P w K R_are_names)) (G__is_register : Fx P w K mg base 3 "_is_register" ["value"] (spR P w K R_is_register)) (G_is_gate : Fx P w K mg base 3 "is_gate" ["value"] (spR P w K R_is_gate)) (X_BadCircuit : Xm P w K mg base "BadCircuit" (He.ga K "BadCircuit") (spX2 (He.ga K "BadCircuit") "reason" "name")) : Fx P w K mg base 4 "_check_form" ["inputs", "registers", "gates", "outputs"] (spR P w K (R_check_form K)) := by
  refine Fx.ofX D sc_check_form (l_check_form K) fun f cdv A outer s H E hr tk => ?_
  refine ⟨_, (pss_cons (ps_if (PW.pt (pw_or (pt_not (pt_val (pe_fx G__are_names (hr.mono (by decide)) (pa_cons (pv 0) pa_nil)))) (pw_or1 (pt_not (pt_val (pe_fx G__are_names (hr.mono (by decide)) (pa_cons (pv 3) pa_nil))))))) (pss_one (ps_raise rfl tk (pm_2 X_BadCircuit (hr.mono (by decide)) (pa_cons pe_str (pa_cons pe_str pa_nil))))) pss_nil)
      (pss_cons (ps_if (pt_not (pt_val (pe_callB (cr_all rfl) (by rfl) T.f_all (by decide +kernel) (pa_cons (pe_lc (own := [("item", 4)]) (g := gName 4) (tt := tYes) rfl sc_check_form.nd (pi_tup (pv 1)) (blkOk_by (N := N_check_form) (sc := defScope s_check_form) (by decide +kernel)) (fun _ _ _ _ _ => (pgn (i := 4) sc_check_form.nd)) (fun _ _ _ _ _ => pts_nil) (fun _ _ _ _ _ => (pe_fx G__is_register (hr.mono (by decide)) (pa_cons (pv 4) pa_nil)))) pa_nil)))) (pss_one (ps_raise rfl tk (pm_2 X_BadCircuit (hr.mono (by decide)) (pa_cons pe_str (pa_cons pe_str pa_nil))))) pss_nil)
      (pss_one (ps_if (pt_not (pt_val (pe_callB (cr_all rfl) (by rfl) T.f_all (by decide +kernel) (pa_cons (pe_lc (own := [("item", 4)]) (g := gName 4) (tt := tYes) rfl sc_check_form.nd (pi_tup (pv 2)) (blkOk_by (N := N_check_form) (sc := defScope s_check_form) (by decide +kernel)) (fun _ _ _ _ _ => (pgn (i := 4) sc_check_form.nd)) (fun _ _ _ _ _ => pts_nil) (fun _ _ _ _ _ => (pe_fx G_is_gate (hr.mono (by decide)) (pa_cons (pv 4) pa_nil)))) pa_nil)))) (pss_one (ps_raise rfl tk (pm_2 X_BadCircuit (hr.mono (by decide)) (pa_cons pe_str (pa_cons pe_str pa_nil))))) pss_nil)))), ?_⟩
  rintro ds r ⟨is, rs, gs, os, rfl, ⟨l1, l2, l3, l4⟩, ⟨o1, o2, o3, o4⟩, rfl⟩
  show Does P w K E _ [.d (.tup is), .d (.tup rs), .d (.tup gs), .d (.tup os), .u] _
  have t1 : ∀ {env : En} {i : Nat} {xs : List Dt}, env[i]? = some (.d (.tup xs)) → xs.length ≤ 40000 → xs.all okS = true → Tp P w K (tNot (tB (tCall (spR P w K R_are_names) [] E0 (tCons (tVar i) tNil)))) env (!xs.all isName) := fun h0 h1 h2 =>
    tp_not (tp_B (ep_call (ap_cons (ep_var h0) ap_nil) ⟨_, .inl rfl, h1, h2, rfl⟩))
  have bad : ∀ {s2 : TS} {e : En}, Se P w K (tSeq (fun _ σ H => tMkO (He.ga K "BadCircuit") (spX2 (He.ga K "BadCircuit") "reason" "name") [] (tCons (tC (.str "form")) (tCons (tC (.str "")) tNil)) σ H fun cls d H' => (fun (cls : Value) (d : Option Addr) (_ : L2.St) (H : Hp) => E cls d H) cls d σ H') s2) e (.rz (fun cls d _ H => E cls d H) (badC K "form" "") e) := se_seqF (se_raise2 (by walk_at "ap"))
  have bad1 : ∀ {e : En}, Se P w K (fun _ σ H => tMkO (He.ga K "BadCircuit") (spX2 (He.ga K "BadCircuit") "reason" "name") [] (tCons (tC (.str "form")) (tCons (tC (.str "")) tNil)) σ H fun cls d H' => (fun (cls : Value) (d : Option Addr) (_ : L2.St) (H : Hp) => E cls d H) cls d σ H') e (.rz (fun cls d _ H => E cls d H) (badC K "form" "") e) := se_raise2 (by walk_at "ap")
  refine does_if (e := [.d (.tup is), .d (.tup rs), .d (.tup gs), .d (.tup os), .u]) ?_
  refine se_when (te_p (tp_or (t1 rfl l1 o1) fun _ => t1 rfl l4 o4)) (fun hb => ?_) (fun hb => ?_)
  · rw [if_neg]
    · exact bad
    · intro z
      simp only [Bool.and_eq_true] at z
      rw [z.1, z.2.1] at hb
      cases hb
  · obtain ⟨b1, b2⟩ : is.all isName = true ∧ os.all isName = true := by simpa using hb
    refine se_when (b := !rs.all isReg) (te_p (tp_not (tp_B (ep_is (ep_cb (ap_cons (ep_is (ep_new (np_map (ip_tup ep_var) l2 (fun d => .bl (isReg d)) fun d hd => ep_call (ap_cons ep_var ap_nil) ⟨d, rfl, List.all_eq_true.mp o2 d hd, rfl⟩)) (e := .lst ((rs.map isReg).map .bl)) (by rw [List.map_map]; rfl)) ap_nil) rl_all) (by rw [List.all_map]; rfl))))) (fun hb => ?_) (fun hb => ?_)
    · rw [if_neg]
      · exact bad
      · intro z
        simp only [Bool.and_eq_true] at z
        rw [z.2.2.1] at hb
        cases hb
    · refine se_if (b := !gs.all isGate) (te_p (tp_not (tp_B (ep_is (ep_cb (ap_cons (ep_is (ep_new (np_map (ip_tup ep_var) l3 (fun d => .bl (isGate d)) fun d hd => ep_call (ap_cons ep_var ap_nil) ⟨d, rfl, List.all_eq_true.mp o3 d hd, rfl⟩)) (e := .lst ((gs.map isGate).map .bl)) (by rw [List.map_map]; rfl)) ap_nil) rl_all) (by rw [List.all_map]; rfl))))) (fun hc => ?_) (fun hc => ?_)
      · rw [if_neg]
        · exact bad1
        · intro z
          simp only [Bool.and_eq_true] at z
          rw [z.2.2.2] at hc
          cases hc
      · rw [if_pos]
        · exact se_next
        · rw [b1, b2]
          have h1 : rs.all isReg = true := by simpa using hb
          have h2 : gs.all isGate = true := by simpa using hc
          rw [h1, h2]
          rfl
end
end CC

set_option maxHeartbeats 400000
namespace CC
open PySem PySem.Spec PyProof.Rows L2 Qw
open Evl hiding ea_cons
open Pw (Dt Rp RpL Wk R2d R1d RLd RLn Kq KqL truD flatD fl py pyL rangeD charsD spX2 Xm Xm0 tyD isI isB isS isTp isL rl_isInt rl_isBool rl_isStr rl_isTup rl_isList rl_int rl_max2 rl_min2 rl_len rl_lenT rl_tup rl_tupT rl_lenS rl_all rl_any rn_list rn_listT r2_I0 r2_B0 r2_eqI r2_neI r2_eqS r2_neS r2_eq r2_ne r2_I r2_inS r2_niS r2_in r2_inT r2_ixL r2_ixT r2_ixS r2_addS r2_eqD r2_neD r2_ixM r1_U ixN_at itemD cr_int cr_min2 cr_max2 cr_list cr_tuple cr_len pe_globI pe_globS pe_globR pe_tyname rTupS rInt1 rMin2)
local macro_rules | `(tactic| walk_at "side") => `(tactic| first
  | decide | omega | assumption | (show (0 : Int) < _; omega) | exact (show CDiv _ _ from ⟨by omega, by omega⟩) | exact (show CMul _ _ from Or.inr ⟨by omega, by omega⟩) | exact (show CMul _ _ from Or.inl ⟨by omega, by omega⟩) | exact (show CPow _ _ from ⟨by decide, by decide, by decide⟩))
local macro_rules | `(tactic| walk_at "op") => `(tactic| first
  | exact r2_I0 | exact r2_B0 | exact r2_eqI | exact r2_neI | exact r2_eqS | exact r2_neS
  | exact r2_eq rfl rfl rfl | exact r2_ne rfl rfl rfl
  | (refine' r2_I ?_; walk_at "side") | exact r2_inS | exact r2_niS)
local macro_rules | `(tactic| walk_at "rl") => `(tactic| first
  | exact rl_int | exact rl_max2 | exact rl_min2 | exact rl_len | exact rl_lenT | exact rl_isInt (by first | rfl | assumption) | exact rl_isBool (by first | rfl | assumption) | exact rl_isStr (by first | rfl | assumption) | exact rl_isTup (by first | rfl | assumption) | exact rl_isList (by first | rfl | assumption) | exact rl_tup | exact rl_tupT | (refine' rl_lenS ?_; walk_at "side"))
local macro_rules | `(tactic| walk_at "ap") => `(tactic| first
  | exact ap_nil
  | (refine' ap_cons ?eah ?eat; (case eah => walk_at "ep"); (case eat => walk_at "ap")))
local macro_rules | `(tactic| walk_at "ep") => `(tactic| first
  | exact ep_int | exact ep_bl | exact ep_str | exact ep_non | exact ep_ty | exact ep_var
  | (refine' ep_op ?eva ?evb ?evc; (case eva => walk_at "ep"); (case evb => walk_at "ep"); (case evc => walk_at "op"))
  | (refine' ep_cb ?evd ?eve; (case evd => walk_at "ap"); (case eve => walk_at "rl"))
  | (refine' ep_un ?evf r1_U; (case evf => walk_at "ep"))
  | (refine' ep_tup ?evg ?evi; (case evg => walk_at "ap"); (case evi => exact Nat.le_of_ble_eq_true rfl))
  | (refine' ep_lst ?evh ?evj; (case evh => walk_at "ap"); (case evj => exact Nat.le_of_ble_eq_true rfl))
  | assumption)
local macro_rules | `(tactic| walk_at "ee") => `(tactic| (refine' ee_p ?eep; (case eep => walk_at "ep")))
local macro_rules | `(tactic| walk_at "te") => `(tactic| (refine' te_p ?tep; (case tep => walk_at "tp")))
local macro_rules | `(tactic| walk_at "tp") => `(tactic| first
  | (refine' tp_test ?tea; (case tea => walk_at "ep"))
  | (refine' tp_B ?teb; (case teb => walk_at "ep"))
  | (refine' tp_not ?tec; (case tec => walk_at "tp"))
  | (refine' tp_or ?ted ?tee; (case ted => walk_at "tp"); (case tee => intro _; walk_at "tp"))
  | (refine' tp_and ?tef ?teg; (case tef => walk_at "tp"); (case teg => intro _; walk_at "tp"))
  | assumption)
section
variable {P : Program} {w : World} {K : PySem.W.Frag} {mg : Str → Option Value} {base : Heap}

theorem se_lez {s : TS} {env e1 e2 : En} {W : WX} {x : Xn} (h : Se P w K s env (.rz W x e1)) (l : Le e1 e2) : Se P w K s env (.rz W x e2) := fun F0 H0 F H σ D S p => h F0 H0 F H σ D S fun od F1 H1 σ1 e1 S1 => p od F1 H1 σ1 e1 (S1.le l)
theorem le_x : ∀ {a : En} {n : Nat}, a.length = n → Le a (List.replicate n .x) := fun {a n} h => ⟨by simp [h], fun i s e => .inl (by
  rw [List.getElem?_replicate] at e
  split at e
  · exact (Option.some.inj e).symm
  · cases e)⟩
def orX (f : Str → Xn) : Option Str → Rs
  | none => .d .non
  | some a => .x (f a)
def outX (E : XK) (e e2 : En) (f : Str → Xn) : Option Str → Out
  | none => .nx e
  | some a => .rz (fun cls d _ H => E cls d H) (f a) e2
/-! ### _check_driven_once -/
def dupOf : List Str → List Str → Option Str
  | _, [] => none
  | seen, x :: r => if x ∈ seen then some x else dupOf (seen ++ [x]) r
theorem dup_spec : ∀ (xs seen : List Str), (dupOf seen xs = none ∧ ∀ (i : Nat) x, xs[i]? = some x → ¬ x ∈ seen ++ xs.take i) ∨ ∃ (i : Nat) (x : Str), dupOf seen xs = some x ∧ xs[i]? = some x ∧ x ∈ seen ++ xs.take i ∧ ∀ (j : Nat) y, j < i → xs[j]? = some y → ¬ y ∈ seen ++ xs.take j
  | [], seen => .inl ⟨rfl, fun i x h => by simp at h⟩
  | a :: xs, seen => by
    by_cases e : a ∈ seen
    · exact .inr ⟨0, a, by simp [dupOf, e], rfl, by simpa using e, fun j y h => by omega⟩
    · have h0 : dupOf seen (a :: xs) = dupOf (seen ++ [a]) xs := by simp [dupOf, e]
      rw [h0]
      rcases dup_spec xs (seen ++ [a]) with ⟨h1, h2⟩ | ⟨i, x, h1, h2, h3, h4⟩
      · refine .inl ⟨h1, fun i x h => ?_⟩
        cases i with
        | zero =>
          simp at h
          subst h
          simpa using e
        | succ i =>
          have := h2 i x (by simpa using h)
          simpa [List.append_assoc] using this
      · refine .inr ⟨i + 1, x, h1, by simpa using h2, by simpa [List.append_assoc] using h3, fun j y hj hy => ?_⟩
        cases j with
        | zero =>
          simp at hy
          subst hy
          simpa using e
        | succ j =>
          have := h4 j y (by omega) (by simpa using hy)
          simpa [List.append_assoc] using this
def setS (xs : List Str) : Key → Bool := Qs.memK (xs.map Sum.inr)
theorem setS_in (xs : List Str) (x : Str) : setS xs (.inr x) = decide (x ∈ xs) := by
  unfold setS Qs.memK
  induction xs with
  | nil => simp
  | cons a xs ih =>
    rw [List.map_cons, List.any_cons, ih]
    have : decide ((Sum.inr x : Key) = Sum.inr a) = decide (x = a) := decide_eq_decide.mpr ⟨Sum.inr.inj, fun h => by rw [h]⟩
    rw [this]
    simp
theorem setS_snoc (xs : List Str) (x : Str) : (fun j => setS xs j || decide (j = (.inr x : Key))) = setS (xs ++ [x]) := by
  funext j
  unfold setS Qs.memK
  simp
def R_check_driven_once (K : PySem.W.Frag) (ds : List Dt) (r : Rs) : Prop := ∃ xs : List Str, ds = [.lst (xs.map .str)] ∧ xs.length ≤ 3000 ∧ r = orX (badC K "twice") (dupOf [] xs)
theorem l_check_driven_once (K : PySem.W.Frag) (ds : List Dt) (r : Rs) (h : R_check_driven_once K ds r) : ds.length = 1 := by
  obtain ⟨xs, rfl, _⟩ := h
  rfl
theorem does_opt {E : XK} {s : TS} {env e e2 : En} {f : Str → Xn} (o : Option Str) (h : Se P w K s env (outX E e e2 f o)) : Does P w K E s env (orX f o) := by
  cases o with
  | none => exact does_nx h
  | some a => exact does_rz h
abbrev s_check_driven_once : Stmt := top 19
abbrev N_check_driven_once : List Str := ["lines", "seen", "line"]
theorem sc_check_driven_once : FnScope N_check_driven_once ["lines"] (defScope s_check_driven_once) := ⟨rfl, rfl, rfl, by decide +kernel, rfl, by decide +kernel, by decide +kernel⟩
theorem k_check_driven_once (T : Txt K mg) (D : Dx K mg "_check_driven_once" ["lines"] s_check_driven_once)  (X_BadCircuit : Xm P w K mg base "BadCircuit" (He.ga K "BadCircuit") (spX2 (He.ga K "BadCircuit") "reason" "name")) : Fx P w K mg base 3 "_check_driven_once" ["lines"] (spR P w K (R_check_driven_once K)) := by
  refine Fx.ofX D sc_check_driven_once (l_check_driven_once K) fun f cdv A outer s H E hr tk => ?_
  refine ⟨_, (pss_cons (pset (i := 1) sc_check_driven_once.nd (pe_callTy0 cr_set0K (by rfl) T.f_set (by decide +kernel)))
      (pss_one (ps_for (passes_of rfl) rfl (pi_list (pv 0)) (pgn (i := 2) sc_check_driven_once.nd)
      (pss_cons (ps_if (pt_cmpR or_sinK (pv 2) (pv 1) rfl) (pss_one (ps_raise rfl tk (pm_2 X_BadCircuit (hr.mono (by decide)) (pa_cons pe_str (pa_cons (pv 2) pa_nil))))) pss_nil)
      (pss_one (ps_expr (pe_saddK (pv 1) (pa_cons (pv 2) pa_nil)))))))), ?_⟩
  rintro ds r ⟨xs, rfl, hl, rfl⟩
  show Does P w K E _ [.d (.lst (xs.map .str)), .u, .u] _
  refine does_opt (e := [.d (.lst (xs.map .str)), .ow none (.set (setS xs) xs.length), .x]) (e2 := List.replicate 3 .x) _ ?_
  refine se_seq (env1 := [.d (.lst (xs.map .str)), .ow none (.set (setS []) 0), .u]) (se_own (eo_p po_set0)) ?_
  have turn : ∀ (i : Nat) (x : Str), xs[i]? = some x → i < xs.length := fun i x h => (List.getElem?_eq_some_iff.mp h).1
  have hE : ∀ (i : Nat) (d : Dt), (xs.map Dt.str)[i]? = some d → ∃ x, xs[i]? = some x ∧ d = .str x := fun i d h => by
    rw [List.getElem?_map] at h
    cases e : xs[i]? with
    | none => rw [e] at h; cases h
    | some x =>
      rw [e] at h
      exact ⟨x, rfl, (Option.some.inj h).symm⟩
  let En0 : Nat → En := fun i => [.d (.lst (xs.map .str)), .ow none (.set (setS (xs.take i)) i), .x]
  have t1 : ∀ (i : Nat) (x : Str), Te P w K (tTest (tOp (rSInK P w false) (tVar 2) (tVar 1))) ((En0 i).set 2 (.d (.str x))) (decide (x ∈ xs.take i)) ((En0 i).set 2 (.d (.str x))) := fun i x => te_p (tp_is (tp_test (ep_inS (k := .inr x) (S0 := setS (xs.take i)) (m := i) false ep_var)) (setS_in _ _))
  rcases dup_spec xs [] with ⟨h1, h2⟩ | ⟨i, x, h1, h2, h3, h4⟩
  · rw [h1]
    refine se_is (se_for (ie_p (ip_list ep_var)) En0 xs.length (by simp) (Le.s (Le.s (Le.x Le.nil))) (fun i d hi hd => ?_) (.inl ⟨by simp, rfl⟩)) (by simp only [En0, List.take_length]; rfl)
    obtain ⟨x, hx, rfl⟩ := hE i d hd
    refine ⟨_, ge_name, se_nc (se_le (se_when (b := false) (te_is (t1 i x) (decide_eq_false (by simpa using h2 i x hx))) (fun z => nomatch z) fun _ => se_addS (k := .inr x) (S0 := setS (xs.take i)) (m := i) ep_var rfl (by omega)) ?_)⟩
    rw [setS_snoc, show xs.take i ++ [x] = xs.take (i + 1) by rw [List.take_add_one, hx]; rfl]
    exact Le.s (Le.s (Le.x Le.nil))
  · rw [h1]
    have hi := turn i x h2
    refine se_for (ie_p (ip_list ep_var)) En0 i (by simp; omega) (Le.s (Le.s (Le.x Le.nil))) (fun j d hj hd => ?_) (.inr ⟨.str x, _, by rw [List.getElem?_map, h2]; rfl, ge_name, .inl ⟨rfl, (fun _ z => nomatch z), (fun _ z => nomatch z), ?_⟩⟩)
    · obtain ⟨y, hy, rfl⟩ := hE j d hd
      refine ⟨_, ge_name, se_nc (se_le (se_when (b := false) (te_is (t1 j y) (decide_eq_false (by simpa using h4 j y hj hy))) (fun z => nomatch z) fun _ => se_addS (k := .inr y) (S0 := setS (xs.take j)) (m := j) ep_var rfl (by omega)) ?_)⟩
      rw [setS_snoc, show xs.take j ++ [y] = xs.take (j + 1) by rw [List.take_add_one, hy]; rfl]
      exact Le.s (Le.s (Le.x Le.nil))
    · exact se_when (b := true) (te_is (t1 i x) (decide_eq_true (by simpa using h3))) (fun _ => se_lez (se_seqF (se_raise2 (by walk_at "ap"))) (le_x rfl)) (fun z => nomatch z)
/-! ### _check_known, _check_size -/
def R_check_known (K : PySem.W.Frag) (ds : List Dt) (r : Rs) : Prop := ∃ xs ys : List Str, ds = [.lst (xs.map .str), .lst (ys.map .str)] ∧ xs.length ≤ 3000 ∧ ys.length ≤ 40000 ∧ r = orX (badC K "unknown") (ys.find? fun y => !decide (y ∈ xs))
theorem l_check_known (K : PySem.W.Frag) (ds : List Dt) (r : Rs) (h : R_check_known K ds r) : ds.length = 2 := by
  obtain ⟨xs, ys, rfl, _⟩ := h
  rfl
def strOf : Dt → Str
  | .str x => x
  | _ => ""
theorem find_map (ys : List Str) (p : Str → Bool) : (ys.map Dt.str).find? (fun d => p (strOf d)) = (ys.find? p).map Dt.str := by
  induction ys with
  | nil => rfl
  | cons a ys ih =>
    rw [List.map_cons, List.find?_cons, List.find?_cons]
    show (match p a with | true => _ | false => _) = _
    cases p a with
    | true => rfl
    | false => exact ih
theorem map_inr (xs : List Str) : (xs.map Sum.inr).map kD = xs.map Dt.str := by
  rw [List.map_map]
  rfl
theorem se_findX {E : XK} {wi : TI} {g : TG} {tb : TS} {env : En} (ys : List Str) (p : Str → Bool) (f : Str → Xn) (hI : Ip P w K wi env (ys.map .str)) (E1 e2 : En) (h0 : Le env E1)
    (hs : ∀ y ∈ ys, ∃ e1, Ge P w K g (.str y) E1 e1 ∧ (p y = true → Se P w K tb e1 (.rz (fun cls d _ H => E cls d H) (f y) e2)) ∧ (p y = false → Se P w K tb e1 (.nc E1))) : Se P w K (tFor wi g tb) env (outX E E1 e2 f (ys.find? p)) := by
  refine se_is (se_find (fun d => p (strOf d)) (fun d => .rz (fun cls d _ H => E cls d H) (f (strOf d)) e2) (fun d => ⟨rfl, (fun _ z => nomatch z), (fun _ z => nomatch z)⟩) hI E1 h0 fun d hd => ?_) ?_
  · obtain ⟨y, hy, rfl⟩ := List.mem_map.mp hd
    exact hs y hy
  · rw [find_map ys p]
    cases ys.find? p <;> rfl
abbrev s_check_known : Stmt := top 20
abbrev N_check_known : List Str := ["lines", "names", "known", "name"]
theorem sc_check_known : FnScope N_check_known ["lines", "names"] (defScope s_check_known) := ⟨rfl, rfl, rfl, by decide +kernel, rfl, by decide +kernel, by decide +kernel⟩
theorem k_check_known (T : Txt K mg) (D : Dx K mg "_check_known" ["lines", "names"] s_check_known)  (X_BadCircuit : Xm P w K mg base "BadCircuit" (He.ga K "BadCircuit") (spX2 (He.ga K "BadCircuit") "reason" "name")) : Fx P w K mg base 3 "_check_known" ["lines", "names"] (spR P w K (R_check_known K)) := by
  refine Fx.ofX D sc_check_known (l_check_known K) fun f cdv A outer s H E hr tk => ?_
  refine ⟨_, (pss_cons (pset (i := 2) sc_check_known.nd (pe_callTy (Qs.cr_setL rfl) (by rfl) T.f_set (by decide +kernel) (pa_cons (pv 0) pa_nil)))
      (pss_one (ps_for (passes_of rfl) rfl (pi_list (pv 1)) (pgn (i := 3) sc_check_known.nd)
      (pss_one (ps_if (pt_cmpR or_snotinK (pv 3) (pv 2) rfl) (pss_one (ps_raise rfl tk (pm_2 X_BadCircuit (hr.mono (by decide)) (pa_cons pe_str (pa_cons (pv 3) pa_nil))))) pss_nil))))), ?_⟩
  rintro ds r ⟨xs, ys, rfl, hl, hl2, rfl⟩
  show Does P w K E _ [.d (.lst (xs.map .str)), .d (.lst (ys.map .str)), .u, .u] _
  refine does_opt (e := [.d (.lst (xs.map .str)), .d (.lst (ys.map .str)), .ow none (.set (setS xs) xs.length), .x]) (e2 := List.replicate 4 .x) _ ?_
  refine se_seq (env1 := [.d (.lst (xs.map .str)), .d (.lst (ys.map .str)), .ow none (.set (setS xs) xs.length), .u]) (se_own (eo_p ?_)) ?_
  · have h := po_setL (P := P) (w := w) (K := K) (env := [.d (.lst (xs.map .str)), .d (.lst (ys.map .str)), .u, .u]) (tA := tCons (tVar 0) tNil) (ks := xs.map Sum.inr) (ap_cons (by rw [map_inr]; exact ep_var) ap_nil) (by simp; omega)
    rw [List.length_map] at h
    exact h
  · refine se_findX ys _ _ (ip_list ep_var) _ _ (Le.s (Le.s (Le.s (Le.x Le.nil)))) fun y hy => ⟨_, ge_name, fun hp => ?_, fun hp => ?_⟩
    · exact se_if (b := true) (te_p (tp_is (tp_test (ep_inS (k := .inr y) (S0 := setS xs) (m := xs.length) true ep_var)) ((congrArg (!·) (setS_in xs y)).trans hp))) (fun _ => se_lez (se_raise2 (by walk_at "ap")) (le_x rfl)) (fun z => nomatch z)
    · exact se_nc (se_le (se_if (b := false) (te_p (tp_is (tp_test (ep_inS (k := .inr y) (S0 := setS xs) (m := xs.length) true ep_var)) ((congrArg (!·) (setS_in xs y)).trans hp))) (fun z => nomatch z) (fun _ => se_next)) (Le.s (Le.s (Le.s (Le.x Le.nil)))))
def R_check_size (K : PySem.W.Frag) (ds : List Dt) (r : Rs) : Prop := ∃ xs ys : List Dt, ds = [.lst xs, .lst ys] ∧ r = if xs.length ≤ 400 ∧ ys.length ≤ 40 then .d .non else .x (badC K "size" "")
theorem l_check_size (K : PySem.W.Frag) (ds : List Dt) (r : Rs) (h : R_check_size K ds r) : ds.length = 2 := by
  obtain ⟨xs, ys, rfl, _⟩ := h
  rfl
abbrev s_check_size : Stmt := top 21
abbrev N_check_size : List Str := ["lines", "sources"]
theorem sc_check_size : FnScope N_check_size ["lines", "sources"] (defScope s_check_size) := ⟨rfl, rfl, rfl, by decide +kernel, rfl, by decide +kernel, by decide +kernel⟩
theorem k_check_size (T : Txt K mg) (D : Dx K mg "_check_size" ["lines", "sources"] s_check_size)  (X_BadCircuit : Xm P w K mg base "BadCircuit" (He.ga K "BadCircuit") (spX2 (He.ga K "BadCircuit") "reason" "name")) : Fx P w K mg base 3 "_check_size" ["lines", "sources"] (spR P w K (R_check_size K)) := by
  refine Fx.ofX D sc_check_size (l_check_size K) fun f cdv A outer s H E hr tk => ?_
  refine ⟨_, (pss_one (ps_if (PW.pt (pw_or (pt_cmpR op_gt (pe_callB cr_len (by rfl) T.f_len PySem.boot_len (pa_cons (pv 0) pa_nil)) (pe_globI T.g_MOST_LINES) (nomark _)) (pw_or1 (pt_cmpR op_gt (pe_callB cr_len (by rfl) T.f_len PySem.boot_len (pa_cons (pv 1) pa_nil)) (pe_globI T.g_MOST_SOURCES) (nomark _))))) (pss_one (ps_raise rfl tk (pm_2 X_BadCircuit (hr.mono (by decide)) (pa_cons pe_str (pa_cons pe_str pa_nil))))) pss_nil)), ?_⟩
  rintro ds r ⟨xs, ys, rfl, rfl⟩
  show Does P w K E _ [.d (.lst xs), .d (.lst ys)] _
  refine does_if (e := [.d (.lst xs), .d (.lst ys)]) ?_
  refine se_if (b := decide ((400 : Int) < xs.length) || decide ((40 : Int) < ys.length)) (te_p (tp_or (by walk_at "tp") fun _ => by walk_at "tp")) (fun hb => ?_) (fun hb => ?_)
  · rw [if_neg]
    · exact se_raise2 (by walk_at "ap")
    · rintro ⟨h1, h2⟩
      simp only [Bool.or_eq_true, decide_eq_true_eq] at hb
      omega
  · rw [if_pos]
    · exact se_next
    · simp only [Bool.or_eq_false_iff, decide_eq_false_iff_not] at hb
      omega
end
end CC

set_option maxHeartbeats 400000
namespace CC
open PySem PySem.Spec PyProof.Rows L2 Qw
open Evl hiding ea_cons
open Pw (Dt Rp RpL Wk R2d R1d RLd RLn Kq KqL truD flatD fl py pyL rangeD charsD spX2 Xm Xm0 tyD isI isB isS isTp isL rl_isInt rl_isBool rl_isStr rl_isTup rl_isList rl_int rl_max2 rl_min2 rl_len rl_lenT rl_tup rl_tupT rl_lenS rl_all rl_any rn_list rn_listT r2_I0 r2_B0 r2_eqI r2_neI r2_eqS r2_neS r2_eq r2_ne r2_I r2_inS r2_niS r2_in r2_inT r2_ixL r2_ixT r2_ixS r2_addS r2_eqD r2_neD r2_ixM r1_U ixN_at itemD cr_int cr_min2 cr_max2 cr_list cr_tuple cr_len pe_globI pe_globS pe_globR pe_tyname rTupS rInt1 rMin2)
local macro_rules | `(tactic| walk_at "side") => `(tactic| first
  | decide | omega | assumption | (show (0 : Int) < _; omega) | exact (show CDiv _ _ from ⟨by omega, by omega⟩) | exact (show CMul _ _ from Or.inr ⟨by omega, by omega⟩) | exact (show CMul _ _ from Or.inl ⟨by omega, by omega⟩) | exact (show CPow _ _ from ⟨by decide, by decide, by decide⟩))
local macro_rules | `(tactic| walk_at "op") => `(tactic| first
  | exact r2_I0 | exact r2_B0 | exact r2_eqI | exact r2_neI | exact r2_eqS | exact r2_neS
  | exact r2_eq rfl rfl rfl | exact r2_ne rfl rfl rfl
  | (refine' r2_I ?_; walk_at "side") | exact r2_inS | exact r2_niS)
local macro_rules | `(tactic| walk_at "rl") => `(tactic| first
  | exact rl_int | exact rl_max2 | exact rl_min2 | exact rl_len | exact rl_lenT | exact rl_isInt (by first | rfl | assumption) | exact rl_isBool (by first | rfl | assumption) | exact rl_isStr (by first | rfl | assumption) | exact rl_isTup (by first | rfl | assumption) | exact rl_isList (by first | rfl | assumption) | exact rl_tup | exact rl_tupT | (refine' rl_lenS ?_; walk_at "side"))
local macro_rules | `(tactic| walk_at "ap") => `(tactic| first
  | exact ap_nil
  | (refine' ap_cons ?eah ?eat; (case eah => walk_at "ep"); (case eat => walk_at "ap")))
local macro_rules | `(tactic| walk_at "ep") => `(tactic| first
  | exact ep_int | exact ep_bl | exact ep_str | exact ep_non | exact ep_ty | exact ep_var
  | (refine' ep_op ?eva ?evb ?evc; (case eva => walk_at "ep"); (case evb => walk_at "ep"); (case evc => walk_at "op"))
  | (refine' ep_cb ?evd ?eve; (case evd => walk_at "ap"); (case eve => walk_at "rl"))
  | (refine' ep_un ?evf r1_U; (case evf => walk_at "ep"))
  | (refine' ep_tup ?evg ?evi; (case evg => walk_at "ap"); (case evi => exact Nat.le_of_ble_eq_true rfl))
  | (refine' ep_lst ?evh ?evj; (case evh => walk_at "ap"); (case evj => exact Nat.le_of_ble_eq_true rfl))
  | assumption)
local macro_rules | `(tactic| walk_at "ee") => `(tactic| (refine' ee_p ?eep; (case eep => walk_at "ep")))
local macro_rules | `(tactic| walk_at "te") => `(tactic| (refine' te_p ?tep; (case tep => walk_at "tp")))
local macro_rules | `(tactic| walk_at "tp") => `(tactic| first
  | (refine' tp_test ?tea; (case tea => walk_at "ep"))
  | (refine' tp_B ?teb; (case teb => walk_at "ep"))
  | (refine' tp_not ?tec; (case tec => walk_at "tp"))
  | (refine' tp_or ?ted ?tee; (case ted => walk_at "tp"); (case tee => intro _; walk_at "tp"))
  | (refine' tp_and ?tef ?teg; (case tef => walk_at "tp"); (case teg => intro _; walk_at "tp"))
  | assumption)
section
variable {P : Program} {w : World} {K : PySem.W.Frag} {mg : Str → Option Value} {base : Heap}

/-! ### gates, typed; _in_order -/
structure Gt where
  l : Str
  k : Str
  ps : List Str
deriving DecidableEq
def Gt.d (g : Gt) : Dt := .tup [.str g.l, .str g.k, .tup (g.ps.map .str)]
def ins (xs : List Str) (x : Str) : List Str := if x ∈ xs then xs else xs ++ [x]
def kn (xs : List Str) : KD := xs.map fun x => (.inr x, .bl true)
theorem val_kn (xs : List Str) (x : Str) : (valD (kn xs) (.inr x)).isSome = decide (x ∈ xs) := by
  unfold valD kn
  induction xs with
  | nil => simp
  | cons a xs ih =>
    rw [List.map_cons, List.find?_cons]
    by_cases e : a = x
    · subst e; simp
    · have : decide ((Sum.inr a : Key) = Sum.inr x) = false := decide_eq_false fun h => e (Sum.inr.inj h)
      simp only [this]
      rw [ih]
      exact decide_eq_decide.mpr (by simp [Ne.symm e])
theorem put_kn (xs : List Str) (x : Str) : putD (kn xs) (.inr x) (.bl true) = kn (ins xs x) := by
  unfold putD ins
  have hany : ((kn xs).any fun kv => decide (kv.1 = Sum.inr x)) = decide (x ∈ xs) := by
    unfold kn
    induction xs with
    | nil => simp
    | cons a xs ih =>
      rw [List.map_cons, List.any_cons, ih]
      have : decide ((Sum.inr a : Key) = Sum.inr x) = decide (x = a) := decide_eq_decide.mpr ⟨fun h => (Sum.inr.inj h).symm, fun h => by rw [h]⟩
      rw [this]
      simp
  rw [hany]
  by_cases e : x ∈ xs
  · rw [if_pos (decide_eq_true e), if_pos e]
    unfold kn
    rw [List.map_map]
    refine List.map_congr_left fun a _ => ?_
    show (if (Sum.inr a : Key) = Sum.inr x then ((Sum.inr a : Key), Dt.bl true) else _) = _
    split <;> rfl
  · rw [if_neg (by simpa using e), if_neg e]
    simp [kn]
theorem ins_len (xs : List Str) (x : Str) : (ins xs x).length ≤ xs.length + 1 := by
  unfold ins
  split <;> simp
theorem kn_len (xs : List Str) : (kn xs).length = xs.length := by simp [kn]
structure Os where
  kn : List Str
  fo : List Gt
  le : List Gt
def ostep (s : Os) (g : Gt) : Os := if (g.ps.all fun p => decide (p ∈ s.kn)) = true then ⟨ins s.kn g.l, s.fo ++ [g], s.le⟩ else ⟨s.kn, s.fo, s.le ++ [g]⟩
def opass (k : List Str) (fo ws : List Gt) : Os := ws.foldl ostep ⟨k, fo, []⟩
def ordN : Nat → List Str → List Gt → List Gt → Except Str (List Str × List Gt)
  | _, k, fo, [] => .ok (k, fo)
  | 0, _, _, g :: _ => .error g.l
  | n + 1, k, fo, g :: ws => if (opass k fo (g :: ws)).le.length = (g :: ws).length then .error (((opass k fo (g :: ws)).le.head?.map Gt.l).getD "") else ordN n (opass k fo (g :: ws)).kn (opass k fo (g :: ws)).fo (opass k fo (g :: ws)).le
def order (src : List Str) (gs : List Gt) : Except Str (List Str × List Gt) := ordN gs.length (src.foldl ins []) [] gs
def ordR (K : PySem.W.Frag) : Except Str (List Str × List Gt) → Rs
  | .ok l => .o (.lst (l.2.map Gt.d))
  | .error x => .x (badC K "loop" x)
def R_in_order (K : PySem.W.Frag) (ds : List Dt) (r : Rs) : Prop := ∃ (src : List Str) (gs : List Gt), ds = [.lst (src.map .str), .tup (gs.map Gt.d)] ∧ (src.length ≤ 3000 ∧ gs.length ≤ 3000 ∧ ∀ g ∈ gs, g.ps.length ≤ 30000) ∧ r = ordR K (order src gs)
theorem l_in_order (K : PySem.W.Frag) (ds : List Dt) (r : Rs) (h : R_in_order K ds r) : ds.length = 2 := by
  obtain ⟨xs, ys, rfl, _⟩ := h
  rfl
theorem opass_len (ws : List Gt) : ∀ s : Os, (ws.foldl ostep s).fo.length + (ws.foldl ostep s).le.length = s.fo.length + s.le.length + ws.length ∧ (s.le.length ≤ (ws.foldl ostep s).le.length ∧ s.fo.length ≤ (ws.foldl ostep s).fo.length) ∧ (ws.foldl ostep s).kn.length + s.fo.length ≤ s.kn.length + (ws.foldl ostep s).fo.length ∧ (∀ g ∈ (ws.foldl ostep s).le, g ∈ s.le ∨ g ∈ ws) := by
  induction ws with
  | nil => intro s; exact ⟨rfl, ⟨Nat.le_refl _, Nat.le_refl _⟩, Nat.le_refl _, fun g h => .inl h⟩
  | cons g ws ih =>
    intro s
    obtain ⟨h1, h2, h3, h4⟩ := ih (ostep s g)
    have e : (ostep s g).fo.length + (ostep s g).le.length = s.fo.length + s.le.length + 1 ∧ (s.le.length ≤ (ostep s g).le.length ∧ s.fo.length ≤ (ostep s g).fo.length) ∧ (ostep s g).kn.length + s.fo.length ≤ s.kn.length + (ostep s g).fo.length ∧ (∀ x ∈ (ostep s g).le, x ∈ s.le ∨ x = g) := by
      unfold ostep
      split
      · have := ins_len s.kn g.l
        refine ⟨by simp; omega, ⟨Nat.le_refl _, by simp⟩, by simp; omega, fun x h => .inl h⟩
      · refine ⟨by simp; omega, ⟨by simp, by simp⟩, by simp, fun x h => by simpa using h⟩
    simp only [List.foldl_cons, List.length_cons]
    refine ⟨by omega, ⟨by omega, by omega⟩, by omega, fun x hx => ?_⟩
    rcases h4 x hx with h | h
    · rcases e.2.2.2 x h with h | h
      · exact .inl h
      · exact .inr (by simp [h])
    · exact .inr (by simp [h])
theorem itm {ds : List Dt} {i : Nat} {z : Dt} (h : ds[i]? = some z) : R2d K (rIxT K) (.tup ds) (.int (i : Int)) z := r2_ixT (ixN_nat (List.getElem?_eq_some_iff.mp h).1) h
theorem itmL {ds : List Dt} {i : Nat} {z : Dt} (h : ds[i]? = some z) : R2d K (rIxL K) (.lst ds) (.int (i : Int)) z := r2_ixL (ixN_nat (List.getElem?_eq_some_iff.mp h).1) h
theorem se_seqO {s1 s2 : TS} {env : En} {o1 o : Out} (h1 : Se P w K s1 env o1) (h2 : (∃ env1, o1 = .nx env1 ∧ Se P w K s2 env1 o) ∨ (o1.fin = true ∧ o = o1)) : Se P w K (tSeq s1 s2) env o := by
  rcases h2 with ⟨e1, rfl, h2⟩ | ⟨f, rfl⟩
  · exact se_seq h1 h2
  · exact se_seqF h1 f
theorem se_whileO {t : TT} {tb : TS} {env : En} {o : Out} (Pv : En → Prop) (μ : En → Nat) (hs : ∀ e, Pv e → ∃ b, Te P w K t e b e ∧ (b = true → ∃ o', Se P w K tb e o' ∧ ((∃ e', o' = .nc e' ∧ Pv e' ∧ μ e' < μ e) ∨ (o' = o ∧ o.fin = true ∧ (∀ e, o ≠ .bk e) ∧ (∀ e, o ≠ .ct e)) ∨ ∃ e', o' = .bk e' ∧ o = .nx e')) ∧ (b = false → o = .nx e)) (h0 : Pv env) : Se P w K (tWhile t tb) env o :=
  se_while Pv μ (fun e he => by
    obtain ⟨b, h1, h2, h3⟩ := hs e he
    refine ⟨b, h1, fun hb => ?_, h3⟩
    obtain ⟨o', g1, g2⟩ := h2 hb
    rcases g2 with ⟨e', rfl, g3, g4⟩ | ⟨rfl, g3, g4, g5⟩ | ⟨e', rfl, g3⟩
    · exact .inl ⟨e', g3, g4, g1⟩
    · exact .inr (.inl ⟨g3, g4, g5, g1⟩)
    · exact .inr (.inr ⟨e', g3, g1⟩)) h0
def wIO (E : XK) (K : PySem.W.Frag) (Wn : List Str → List Gt → List Gt → En) : Except Str (List Str × List Gt) → Out
  | .ok l => .nx (Wn l.1 l.2 [])
  | .error x => .rz (fun cls d _ H => E cls d H) (badC K "loop" x) (List.replicate 9 .x)
def oIO (E : XK) (K : PySem.W.Frag) : Except Str (List Str × List Gt) → Out
  | .ok l => .ro (.lst (l.2.map Gt.d))
  | .error x => .rz (fun cls d _ H => E cls d H) (badC K "loop" x) (List.replicate 9 .x)
theorem does_ord {E : XK} {s : TS} {env : En} {r : Except Str (List Str × List Gt)} (h : Se P w K s env (oIO E K r)) : Does P w K E s env (ordR K r) := by
  cases r with
  | ok l => exact h
  | error x => exact ⟨_, h⟩
theorem fold_kn (l : List Str) : ∀ q : List Str, (l.filter fun _ => true).foldl (fun q a => putD q (.inr a) (.bl true)) (kn q) = kn (l.foldl ins q) := by
  have e : l.filter (fun _ => true) = l := by simp
  rw [e]
  induction l with
  | nil => intro q; rfl
  | cons a l ih =>
    intro q
    rw [List.foldl_cons, put_kn, ih, List.foldl_cons]
    simp
theorem foldins_len (l : List Str) : ∀ q : List Str, (l.foldl ins q).length ≤ q.length + l.length := by
  induction l with
  | nil => intro q; exact Nat.le_refl _
  | cons a l ih =>
    intro q
    have h1 := ih (ins q a)
    have h2 := ins_len q a
    simp only [List.foldl_cons, List.length_cons]
    omega
def wlen (e : En) : Nat := match (e[5]? : Option Sl) with
  | some (Sl.d (Dt.lst l)) => l.length
  | _ => 0
set_option maxHeartbeats 2000000
abbrev s_in_order : Stmt := top 22
abbrev N_in_order : List Str := ["sources", "gates", "known", "line", "found", "waiting", "left", "gate", "pin"]
theorem sc_in_order : FnScope N_in_order ["sources", "gates"] (defScope s_in_order) := ⟨rfl, rfl, rfl, by decide +kernel, rfl, by decide +kernel, by decide +kernel⟩
theorem k_in_order (T : Txt K mg) (D : Dx K mg "_in_order" ["sources", "gates"] s_in_order)  (X_BadCircuit : Xm P w K mg base "BadCircuit" (He.ga K "BadCircuit") (spX2 (He.ga K "BadCircuit") "reason" "name")) : Fx P w K mg base 3 "_in_order" ["sources", "gates"] (spR P w K (R_in_order K)) := by
  refine Fx.ofX D sc_in_order (l_in_order K) fun f cdv A outer s H E hr tk => ?_
  have hu : (A.deeper (envOfC "_in_order" (defScope s_in_order) s.heap.objs.size f cdv)).units + 64 < cLine := hr.units
  have hu1 : (A.deeper (envOfC "_in_order" (defScope s_in_order) s.heap.objs.size f cdv)).units + 1 < cLine := Nat.lt_of_le_of_lt (Nat.add_le_add_left (by decide) _) hu
  refine ⟨_, (pss_cons (pset (i := 2) sc_in_order.nd (pe_dc (own := [("line", 3)]) (g := gName 3) (tt := tYes) rfl sc_in_order.nd (pi_list (pv 0)) (blkOk_by (N := N_in_order) (sc := defScope s_in_order) (by decide +kernel)) (fun _ _ _ _ _ => (pgn (i := 3) sc_in_order.nd)) (fun _ _ _ _ _ => pts_nil) (fun _ _ _ _ _ => (pv 3)) (fun _ _ _ _ _ => pe_bl)))
      (pss_cons (pset (i := 4) sc_in_order.nd (pe_lst pa_nil))
      (pss_cons (pset (i := 5) sc_in_order.nd (pe_callTy cr_list (by rfl) T.f_list (by decide +kernel) (pa_cons (pv 1) pa_nil)))
      (pss_cons (ps_while (passes_of rfl) (pt_truth (pv 5) (fun _ => rfl))
      (pss_cons (pset (i := 6) sc_in_order.nd (pe_lst pa_nil))
      (pss_cons (ps_for (passes_of rfl) rfl (pi_list (pv 5)) (pgn (i := 7) sc_in_order.nd)
      (pss_one (ps_if (pt_val (pe_callB (cr_all rfl) (by rfl) T.f_all (by decide +kernel) (pa_cons (pe_lc (own := [("pin", 8)]) (g := gName 8) (tt := tYes) rfl sc_in_order.nd (pi_tup (pe_ix ix_tup (pv 7) pe_int (fun _ _ => rfl))) (blkOk_by (N := N_in_order) (sc := defScope s_in_order) (by decide +kernel)) (fun _ _ _ _ _ => (pgn (i := 8) sc_in_order.nd)) (fun _ _ _ _ _ => pts_nil) (fun _ _ _ _ _ => (pe_cmp (pc_din hu1 (pv 8) (pv 2))))) pa_nil))) (pss_cons (ps_dput hu1 (pv 2) (pe_ix ix_tup (pv 7) pe_int (fun _ _ => rfl)) pe_bl rfl)
      (pss_one (ps_expr (pe_bm PySem.F.plainAttrs_list PySem.F.slot_list_append PySem.F.type_list_append mt_append (pv 4) (pa_cons (pv 7) pa_nil))))) (pss_one (ps_expr (pe_bm PySem.F.plainAttrs_list PySem.F.slot_list_append PySem.F.type_list_append mt_append (pv 6) (pa_cons (pv 7) pa_nil)))))))
      (pss_cons (ps_if (pt_cmpR op_eq (pe_callB cr_len (by rfl) T.f_len PySem.boot_len (pa_cons (pv 6) pa_nil)) (pe_callB cr_len (by rfl) T.f_len PySem.boot_len (pa_cons (pv 5) pa_nil)) (nomark _)) (pss_one (ps_raise rfl tk (pm_2 X_BadCircuit (hr.mono (by decide)) (pa_cons pe_str (pa_cons (pe_ix ix_tup (pe_ix ix_list (pv 6) pe_int (fun _ _ => rfl)) pe_int (fun _ _ => rfl)) pa_nil))))) pss_nil)
      (pss_one (pset (i := 5) sc_in_order.nd (pv 6)))))))
      (pss_one (ps_ret (pv 4))))))), ?_⟩
  rintro ds r ⟨src, gs, rfl, ⟨z1, z2, z3⟩, rfl⟩
  show Does P w K E _ [.d (.lst (src.map .str)), .d (.tup (gs.map Gt.d)), .u, .u, .u, .u, .u, .u, .u] _
  let Wn : List Str → List Gt → List Gt → En := fun k fo ws => [.d (.lst (src.map .str)), .d (.tup (gs.map Gt.d)), .ow none (.dk (kn k)), .x, .ow none (.lst (fo.map Gt.d)), .d (.lst (ws.map Gt.d)), .x, .x, .x]
  refine does_ord ?_
  refine se_seq (env1 := [.d (.lst (src.map .str)), .d (.tup (gs.map Gt.d)), .ow none (.dk (kn (src.foldl ins []))), .u, .u, .u, .u, .u, .u]) ?_ ?_
  · have h := po_dc (P := P) (w := w) (K := K) (tt := tYes) (ty := tVar 3) (te := tC (.bl true)) (g := gName 3) (wi := iList K (tVar 0)) (env := [.d (.lst (src.map .str)), .d (.tup (gs.map Gt.d)), .u, .u, .u, .u, .u, .u, .u]) (vs := [3]) src Dt.str (ip_list ep_var) (by omega) (fun _ => true) Sum.inr (fun _ => .bl true) fun i a h => ⟨_, gc_name, tp_yes, fun _ => ⟨ep_var, ep_bl⟩⟩
    rw [show (src.filter fun _ => true).foldl (fun q a => putD q (.inr a) (.bl true)) [] = kn (src.foldl ins []) from fold_kn src []] at h
    exact se_own (eo_p h)
  refine se_seq (se_own (en_p (np_lst ap_nil))) ?_
  refine se_seq (se_asg (d := .lst (gs.map Gt.d)) (ee_p (ep_new (np_cb (ap_cons ep_var ap_nil) rn_listT)))) ?_
  refine se_seqO (o1 := wIO E K Wn (order src gs)) (se_pre (env1 := Wn (src.foldl ins []) [] gs) (Le.s (Le.s (Le.s (Le.x (Le.s (Le.s (Le.x (Le.x (Le.x Le.nil))))))))) ?_) ?_
  · refine se_whileO (fun e => ∃ k fo ws, e = Wn k fo ws ∧ k.length ≤ 3000 + fo.length ∧ fo.length + ws.length ≤ 3000 ∧ (∀ g ∈ ws, g.ps.length ≤ 30000) ∧ ∃ n, ws.length ≤ n ∧ ordN n k fo ws = order src gs) wlen ?_ ⟨_, _, _, rfl, by have := foldins_len src []; simp at this; simp; omega, by simpa using z2, z3, gs.length, Nat.le_refl _, rfl⟩
    rintro e ⟨k, fo, ws, rfl, hk, hf, hp, n, hn, ho⟩
    refine ⟨_, te_p (tp_tru ep_var rfl), fun hb => ?_, fun hb => ?_⟩
    · obtain ⟨n, rfl⟩ : ∃ m, n = m + 1 := by
        cases n with
        | zero =>
          cases ws with
          | nil => cases hb
          | cons g r => simp at hn
        | succ n => exact ⟨n, rfl⟩
      have hne : ws ≠ [] := by rintro rfl; cases hb
      have hord : ordN (n + 1) k fo ws = if (opass k fo ws).le.length = ws.length then .error (((opass k fo ws).le.head?.map Gt.l).getD "") else ordN n (opass k fo ws).kn (opass k fo ws).fo (opass k fo ws).le := by
        cases ws with
        | nil => exact absurd rfl hne
        | cons g r => rfl
      obtain ⟨q1, q2, q3, q4⟩ := opass_len ws ⟨k, fo, []⟩
      have q1 : (opass k fo ws).fo.length + (opass k fo ws).le.length = fo.length + ws.length := by simpa [opass] using q1
      have q2 : fo.length ≤ (opass k fo ws).fo.length := q2.2
      have q3 : (opass k fo ws).kn.length + fo.length ≤ k.length + (opass k fo ws).fo.length := q3
      have q4 : ∀ g ∈ (opass k fo ws).le, g ∈ ws := fun g h => by simpa using q4 g h
      refine ⟨if (opass k fo ws).le.length = ws.length then wIO E K Wn (order src gs) else .nc (Wn (opass k fo ws).kn (opass k fo ws).fo (opass k fo ws).le), ?_, ?_⟩
      · refine se_seq (se_own (en_p (np_lst ap_nil))) ?_
        let En1 : Os → En := fun s => [.d (.lst (src.map .str)), .d (.tup (gs.map Gt.d)), .ow none (.dk (kn s.kn)), .x, .ow none (.lst (s.fo.map Gt.d)), .d (.lst (ws.map Gt.d)), .ow none (.lst (s.le.map Gt.d)), .x, .x]
        refine se_seq (env1 := En1 (opass k fo ws)) (se_fold ws Gt.d rfl (ip_list ep_var) En1 ostep (fun s pre => s.fo.length + s.le.length = fo.length + pre.length ∧ s.kn.length ≤ k.length + pre.length) ⟨k, fo, []⟩ ?_ ⟨by simp, by simp⟩ ?_) ?_
        · exact Le.s (Le.s (Le.s (Le.s (Le.s (Le.s (Le.s (Le.s (Le.s Le.nil))))))))
        · rintro s pre g post hx ⟨p1, p2⟩
          have hlen := congrArg List.length hx
          simp at hlen
          have hg : g ∈ ws := by rw [hx]; simp
          refine ⟨?_, _, ge_name, ?_⟩
          · unfold ostep
            have := ins_len s.kn g.l
            split <;> simp <;> omega
          · have item2 : ∀ {en : En}, en[7]? = some (.d g.d) → Ep P w K (tOp (rIxT K) (tVar 7) (tC (.int 2))) en (.tup (g.ps.map .str)) := fun h => ep_op (ep_var h) ep_int (itm (i := 2) rfl)
            have item0 : ∀ {en : En}, en[7]? = some (.d g.d) → Ep P w K (tOp (rIxT K) (tVar 7) (tC (.int 0))) en (.str g.l) := fun h => ep_op (ep_var h) ep_int (itm (i := 0) rfl)
            refine se_nc (se_le (se_if (b := g.ps.all fun p => decide (p ∈ s.kn)) (env1 := (En1 s).set 7 (.d g.d)) (te_p (tp_B (ep_is (ep_cb (ap_cons (ep_is (ep_new (np_mapT g.ps Dt.str (ip_tup (item2 rfl)) (by have := hp g hg; omega) (fun p => .bl (decide (p ∈ s.kn))) fun i p hip => ep_is (ep_din (kvs := kn s.kn) (k := .inr p) (edk_o rfl) ep_var) (by rw [val_kn]))) (e := .lst ((g.ps.map fun p => decide (p ∈ s.kn)).map .bl)) (by rw [List.map_map]; rfl)) ap_nil) rl_all) (by rw [List.all_map]; rfl)))) (o := .nx ((En1 (ostep s g)).set 7 (.d g.d))) (fun hb => ?_) (fun hb => ?_)) (Le.s (Le.s (Le.s (Le.s (Le.s (Le.s (Le.s (Le.x (Le.s Le.nil))))))))))
            · have e : ostep s g = ⟨ins s.kn g.l, s.fo ++ [g], s.le⟩ := if_pos hb
              rw [e]
              refine se_is (se_seq (se_dput (kvs := kn s.kn) (k := .inr g.l) (d := .bl true) (ee_p ep_bl) (item0 rfl) rfl (by rw [kn_len]; omega)) (se_app (xs := s.fo.map Gt.d) rfl (ee_p ep_var) rfl (by simp; omega))) ?_
              rw [put_kn]
              simp [En1]
            · have e : ostep s g = ⟨s.kn, s.fo, s.le ++ [g]⟩ := if_neg (by rw [hb]; exact Bool.false_ne_true)
              rw [e]
              refine se_is (se_app (xs := s.le.map Gt.d) rfl (ee_p ep_var) rfl (by simp; omega)) ?_
              simp [En1]
        · refine se_freeze (i := 6) (t' := none) (v := .lst ((opass k fo ws).le.map Gt.d)) rfl rfl ?_
          refine se_when (b := decide ((opass k fo ws).le.length = ws.length)) (te_p (tp_is (tp_test (ep_op (ep_cb (ap_cons (ep_var rfl) ap_nil) rl_len) (ep_cb (ap_cons (ep_var rfl) ap_nil) rl_len) r2_eqI)) ?_)) (fun hc => ?_) (fun hc => ?_)
          · rw [List.length_map, List.length_map]
            exact decide_eq_decide.mpr (by omega)
          · have hc := of_decide_eq_true hc
            rw [if_pos hc]
            have horder : order src gs = .error (((opass k fo ws).le.head?.map Gt.l).getD "") := by rw [← ho, hord, if_pos hc]
            rw [horder]
            cases hle : (opass k fo ws).le with
            | nil =>
              rw [hle] at hc
              exact absurd (List.length_eq_zero_iff.mp hc.symm) hne
            | cons g r =>
              refine se_seqF (se_lez (se_raise2 (d := .str "loop") (e := .str g.l) (ap_cons ep_str (ap_cons (ep_op (ep_op (d := .lst ((g :: r).map Gt.d)) (ep_var rfl) ep_int (itmL (i := 0) rfl)) ep_int (itm (i := 0) rfl)) ap_nil))) (le_x rfl))
          · have hc := of_decide_eq_false hc
            rw [if_neg hc]
            exact se_nc (se_le (se_asg (ee_p (ep_var rfl))) (Le.s (Le.s (Le.s (Le.s (Le.s (Le.s (Le.x (Le.s (Le.s Le.nil))))))))))
      · by_cases hc : (opass k fo ws).le.length = ws.length
        · rw [if_pos hc]
          have horder : order src gs = .error (((opass k fo ws).le.head?.map Gt.l).getD "") := by rw [← ho, hord, if_pos hc]
          rw [horder]
          exact .inr (.inl ⟨rfl, rfl, (fun _ z => nomatch z), (fun _ z => nomatch z)⟩)
        · rw [if_neg hc]
          refine .inl ⟨_, rfl, ⟨_, _, _, rfl, by omega, by omega, fun g h => hp g (q4 g h), n, by omega, by rw [← ho, hord, if_neg hc]⟩, ?_⟩
          show ((opass k fo ws).le.map Gt.d).length < (ws.map Gt.d).length
          simp
          omega
    · have hws : ws = [] := by
        cases ws with
        | nil => rfl
        | cons g r => cases hb
      subst hws
      have : order src gs = .ok (k, fo) := by rw [← ho]; cases n <;> rfl
      rw [this]
      rfl
  · cases order src gs with
    | ok l => exact .inl ⟨_, rfl, se_roV (t' := none) rfl⟩
    | error x => exact .inr ⟨rfl, rfl⟩
end
end CC

set_option maxHeartbeats 400000
namespace CC
open PySem PySem.Spec PyProof.Rows L2 Qw
open Evl hiding ea_cons
open Pw (Dt Rp RpL Wk R2d R1d RLd RLn Kq KqL truD flatD fl py pyL rangeD charsD spX2 Xm Xm0 tyD isI isB isS isTp isL rl_isInt rl_isBool rl_isStr rl_isTup rl_isList rl_int rl_max2 rl_min2 rl_len rl_lenT rl_tup rl_tupT rl_lenS rl_all rl_any rn_list rn_listT r2_I0 r2_B0 r2_eqI r2_neI r2_eqS r2_neS r2_eq r2_ne r2_I r2_inS r2_niS r2_in r2_inT r2_ixL r2_ixT r2_ixS r2_addS r2_eqD r2_neD r2_ixM r1_U ixN_at itemD cr_int cr_min2 cr_max2 cr_list cr_tuple cr_len pe_globI pe_globS pe_globR pe_tyname rTupS rInt1 rMin2)
local macro_rules | `(tactic| walk_at "side") => `(tactic| first
  | decide | omega | assumption | (show (0 : Int) < _; omega) | exact (show CDiv _ _ from ⟨by omega, by omega⟩) | exact (show CMul _ _ from Or.inr ⟨by omega, by omega⟩) | exact (show CMul _ _ from Or.inl ⟨by omega, by omega⟩) | exact (show CPow _ _ from ⟨by decide, by decide, by decide⟩))
local macro_rules | `(tactic| walk_at "op") => `(tactic| first
  | exact r2_I0 | exact r2_B0 | exact r2_eqI | exact r2_neI | exact r2_eqS | exact r2_neS
  | exact r2_eq rfl rfl rfl | exact r2_ne rfl rfl rfl
  | (refine' r2_I ?_; walk_at "side") | exact r2_inS | exact r2_niS)
local macro_rules | `(tactic| walk_at "rl") => `(tactic| first
  | exact rl_int | exact rl_max2 | exact rl_min2 | exact rl_len | exact rl_lenT | exact rl_isInt (by first | rfl | assumption) | exact rl_isBool (by first | rfl | assumption) | exact rl_isStr (by first | rfl | assumption) | exact rl_isTup (by first | rfl | assumption) | exact rl_isList (by first | rfl | assumption) | exact rl_tup | exact rl_tupT | (refine' rl_lenS ?_; walk_at "side"))
local macro_rules | `(tactic| walk_at "ap") => `(tactic| first
  | exact ap_nil
  | (refine' ap_cons ?eah ?eat; (case eah => walk_at "ep"); (case eat => walk_at "ap")))
local macro_rules | `(tactic| walk_at "ep") => `(tactic| first
  | exact ep_int | exact ep_bl | exact ep_str | exact ep_non | exact ep_ty | exact ep_var
  | (refine' ep_op ?eva ?evb ?evc; (case eva => walk_at "ep"); (case evb => walk_at "ep"); (case evc => walk_at "op"))
  | (refine' ep_cb ?evd ?eve; (case evd => walk_at "ap"); (case eve => walk_at "rl"))
  | (refine' ep_un ?evf r1_U; (case evf => walk_at "ep"))
  | (refine' ep_tup ?evg ?evi; (case evg => walk_at "ap"); (case evi => exact Nat.le_of_ble_eq_true rfl))
  | (refine' ep_lst ?evh ?evj; (case evh => walk_at "ap"); (case evj => exact Nat.le_of_ble_eq_true rfl))
  | assumption)
local macro_rules | `(tactic| walk_at "ee") => `(tactic| (refine' ee_p ?eep; (case eep => walk_at "ep")))
local macro_rules | `(tactic| walk_at "te") => `(tactic| (refine' te_p ?tep; (case tep => walk_at "tp")))
local macro_rules | `(tactic| walk_at "tp") => `(tactic| first
  | (refine' tp_test ?tea; (case tea => walk_at "ep"))
  | (refine' tp_B ?teb; (case teb => walk_at "ep"))
  | (refine' tp_not ?tec; (case tec => walk_at "tp"))
  | (refine' tp_or ?ted ?tee; (case ted => walk_at "tp"); (case tee => intro _; walk_at "tp"))
  | (refine' tp_and ?tef ?teg; (case tef => walk_at "tp"); (case teg => intro _; walk_at "tp"))
  | assumption)
section
variable {P : Program} {w : World} {K : PySem.W.Frag} {mg : Str → Option Value} {base : Heap}

/-! ### circuits, typed -/
abbrev RegT := Str × Str
def regD (r : RegT) : Dt := .tup [.str r.1, .str r.2]
def srcOf (is : List Str) (rs : List RegT) : List Str := is ++ rs.map Prod.fst
def linesOf (is : List Str) (rs : List RegT) (gs : List Gt) : List Str := srcOf is rs ++ gs.map Gt.l
def sinkOf (os : List Str) (rs : List RegT) : List Str := os ++ rs.map Prod.snd
/-- the parts, and what is far from any limit -/
structure Cp where
  is : List Str
  rs : List RegT
  gs : List Gt
  os : List Str
def Cp.ok (c : Cp) : Prop := c.is.length ≤ 1000 ∧ c.rs.length ≤ 1000 ∧ c.gs.length ≤ 1000 ∧ c.os.length ≤ 1000 ∧ ∀ g ∈ c.gs, g.ps.length ≤ 4
def CF : List Str := ["inputs", "registers", "gates", "outputs", "gate_of", "order"]
/-- an object that has the parts c among its fields -/
structure HasP (fs : List Str) (es : List Dt) (c : Cp) : Prop where
  i : (fs.zip es).lookup ("inputs" : Str) = some (Dt.tup (c.is.map .str))
  r : (fs.zip es).lookup ("registers" : Str) = some (Dt.tup (c.rs.map regD))
  g : (fs.zip es).lookup ("gates" : Str) = some (Dt.tup (c.gs.map Gt.d))
  o : (fs.zip es).lookup ("outputs" : Str) = some (Dt.tup (c.os.map .str))
  n : fs.contains ("sources" : Str) = false ∧ fs.contains ("lines" : Str) = false ∧ fs.contains ("sinks" : Str) = false ∧ fs.contains ("above" : Str) = false ∧ fs.contains ("parts" : Str) = false
def R_Circuit_sources (K : PySem.W.Frag) (ds : List Dt) (r : Rs) : Prop := ∃ fs es c, ds = [.obj (He.ga K "Circuit") fs es] ∧ HasP fs es c ∧ c.ok ∧ r = .o (.lst ((srcOf c.is c.rs).map .str))
def R_Circuit_lines (K : PySem.W.Frag) (ds : List Dt) (r : Rs) : Prop := ∃ fs es c, ds = [.obj (He.ga K "Circuit") fs es] ∧ HasP fs es c ∧ c.ok ∧ r = .o (.lst ((linesOf c.is c.rs c.gs).map .str))
def R_Circuit_sinks (K : PySem.W.Frag) (ds : List Dt) (r : Rs) : Prop := ∃ fs es c, ds = [.obj (He.ga K "Circuit") fs es] ∧ HasP fs es c ∧ c.ok ∧ r = .o (.lst ((sinkOf c.os c.rs).map .str))
def R_Circuit_parts (K : PySem.W.Frag) (ds : List Dt) (r : Rs) : Prop := ∃ fs es c, ds = [.obj (He.ga K "Circuit") fs es] ∧ HasP fs es c ∧ c.ok ∧ r = .d (.tup [.tup (c.is.map .str), .tup (c.rs.map regD), .tup (c.gs.map Gt.d), .tup (c.os.map .str)])
theorem l_Circuit_sources (K : PySem.W.Frag) (ds : List Dt) (r : Rs) (h : R_Circuit_sources K ds r) : ds.length = 1 := by
  obtain ⟨_, _, _, rfl, _⟩ := h
  rfl
theorem l_Circuit_lines (K : PySem.W.Frag) (ds : List Dt) (r : Rs) (h : R_Circuit_lines K ds r) : ds.length = 1 := by
  obtain ⟨_, _, _, rfl, _⟩ := h
  rfl
theorem l_Circuit_sinks (K : PySem.W.Frag) (ds : List Dt) (r : Rs) (h : R_Circuit_sinks K ds r) : ds.length = 1 := by
  obtain ⟨_, _, _, rfl, _⟩ := h
  rfl
theorem l_Circuit_parts (K : PySem.W.Frag) (ds : List Dt) (r : Rs) (h : R_Circuit_parts K ds r) : ds.length = 1 := by
  obtain ⟨_, _, _, rfl, _⟩ := h
  rfl
theorem Txt.na (T : Txt K mg) {f : Str} (h : f ∈ (["inputs", "registers", "gates", "outputs", "gate_of", "order"] : List Str) := by simp) : NoAttr K (He.ga K "Circuit") f := T.a_Circuit f h
theorem ep_reg {env : En} {i : Nat} {r : RegT} (h : env[i]? = some (.d (regD r))) : Ep P w K (tOp (rIxT K) (tVar i) (tC (.int 0))) env (.str r.1) ∧ Ep P w K (tOp (rIxT K) (tVar i) (tC (.int 1))) env (.str r.2) := ⟨ep_op (ep_var h) ep_int (itm (i := 0) rfl), ep_op (ep_var h) ep_int (itm (i := 1) rfl)⟩
theorem ep_gate {env : En} {i : Nat} {g : Gt} (h : env[i]? = some (.d g.d)) : Ep P w K (tOp (rIxT K) (tVar i) (tC (.int 0))) env (.str g.l) ∧ Ep P w K (tOp (rIxT K) (tVar i) (tC (.int 1))) env (.str g.k) ∧ Ep P w K (tOp (rIxT K) (tVar i) (tC (.int 2))) env (.tup (g.ps.map .str)) := ⟨ep_op (ep_var h) ep_int (itm (i := 0) rfl), ep_op (ep_var h) ep_int (itm (i := 1) rfl), ep_op (ep_var h) ep_int (itm (i := 2) rfl)⟩
abbrev s_Circuit_sources : Stmt := meth 23 2
abbrev N_Circuit_sources : List Str := ["self", "pair"]
theorem sc_Circuit_sources : FnScope N_Circuit_sources ["self"] (defScope s_Circuit_sources) := ⟨rfl, rfl, rfl, by decide +kernel, rfl, by decide +kernel, by decide +kernel⟩
theorem k_Circuit_sources (T : Txt K mg) (D : Dm K (He.ga K "Circuit") "sources" "Circuit.sources" ["self"] s_Circuit_sources)  : Mx P w K mg base 1 (He.ga K "Circuit") "sources" ["self"] (spR P w K (R_Circuit_sources K)) := by
  refine Mx.of D sc_Circuit_sources (l_Circuit_sources K) fun f cdv A outer s H E hr => ?_
  refine ⟨_, (pss_one (ps_ret (pe_lst (StX.pa_star (pe_fld (pv 0) rfl) (StX.pa_star (pe_lc (own := [("pair", 1)]) (g := gName 1) (tt := tYes) rfl sc_Circuit_sources.nd (pi_tup (pe_fld (pv 0) rfl)) (blkOk_by (N := N_Circuit_sources) (sc := defScope s_Circuit_sources) (by decide +kernel)) (fun _ _ _ _ _ => (pgn (i := 1) sc_Circuit_sources.nd)) (fun _ _ _ _ _ => pts_nil) (fun _ _ _ _ _ => (pe_ix (show IxR _ (rIxT K) from ix_tup) (pv 1) pe_int (fun _ _ => rfl)))) pa_nil))))), ?_⟩
  rintro ds r ⟨fs, es, c, rfl, hp, ⟨o1, o2, o3, o4, o5⟩, rfl⟩
  show Se P w K _ [.d _, .u] _
  refine se_is (se_ro (en_p (np_lst (ap_starT (ep_fld T.k_Circuit T.na ep_var hp.i) (ap_starL (ep_new (np_mapT c.rs regD (ip_tup (ep_fld T.k_Circuit T.na ep_var hp.r)) (by omega) (fun r => .str r.1) fun i r _ => (ep_reg rfl).1)) ap_nil)) (by simp; omega)))) ?_
  simp [srcOf]
abbrev s_Circuit_lines : Stmt := meth 23 1
abbrev N_Circuit_lines : List Str := ["self", "gate"]
theorem sc_Circuit_lines : FnScope N_Circuit_lines ["self"] (defScope s_Circuit_lines) := ⟨rfl, rfl, rfl, by decide +kernel, rfl, by decide +kernel, by decide +kernel⟩
theorem k_Circuit_lines (T : Txt K mg) (D : Dm K (He.ga K "Circuit") "lines" "Circuit.lines" ["self"] s_Circuit_lines)  (M_Circuit_sources : Mx P w K mg base 1 (He.ga K "Circuit") "sources" ["self"] (spR P w K (R_Circuit_sources K))) : Mx P w K mg base 2 (He.ga K "Circuit") "lines" ["self"] (spR P w K (R_Circuit_lines K)) := by
  refine Mx.of D sc_Circuit_lines (l_Circuit_lines K) fun f cdv A outer s H E hr => ?_
  refine ⟨_, (pss_one (ps_ret (pe_lst (StX.pa_star (pe_mx0 M_Circuit_sources T.k_Circuit (hr.mono (by decide)) (pv 0)) (StX.pa_star (pe_lc (own := [("gate", 1)]) (g := gName 1) (tt := tYes) rfl sc_Circuit_lines.nd (pi_tup (pe_fld (pv 0) rfl)) (blkOk_by (N := N_Circuit_lines) (sc := defScope s_Circuit_lines) (by decide +kernel)) (fun _ _ _ _ _ => (pgn (i := 1) sc_Circuit_lines.nd)) (fun _ _ _ _ _ => pts_nil) (fun _ _ _ _ _ => (pe_ix (show IxR _ (rIxT K) from ix_tup) (pv 1) pe_int (fun _ _ => rfl)))) pa_nil))))), ?_⟩
  rintro ds r ⟨fs, es, c, rfl, hp, hk, rfl⟩
  have ⟨o1, o2, o3, o4, o5⟩ := hk
  show Se P w K _ [.d _, .u] _
  refine se_is (se_ro (en_p (np_lst (ap_starL (po_dt (po_meth (u := .lst ((srcOf c.is c.rs).map .str)) ep_var ap_nil ⟨fs, es, c, rfl, hp, hk, rfl⟩ hp.n.1)) (ap_starL (ep_new (np_mapT c.gs Gt.d (ip_tup (ep_fld T.k_Circuit T.na ep_var hp.g)) (by omega) (fun g => .str g.l) fun i r _ => (ep_gate rfl).1)) ap_nil)) (by simp [srcOf]; omega)))) ?_
  simp [linesOf]
abbrev s_Circuit_parts : Stmt := meth 23 5
abbrev N_Circuit_parts : List Str := ["self"]
theorem sc_Circuit_parts : FnScope N_Circuit_parts ["self"] (defScope s_Circuit_parts) := ⟨rfl, rfl, rfl, by decide +kernel, rfl, by decide +kernel, by decide +kernel⟩
theorem k_Circuit_parts (T : Txt K mg) (D : Dm K (He.ga K "Circuit") "parts" "Circuit.parts" ["self"] s_Circuit_parts)  : Mx P w K mg base 1 (He.ga K "Circuit") "parts" ["self"] (spR P w K (R_Circuit_parts K)) := by
  refine Mx.of D sc_Circuit_parts (l_Circuit_parts K) fun f cdv A outer s H E hr => ?_
  refine ⟨_, (pss_one (ps_ret (pe_tup (pa_cons (pe_fld (pv 0) rfl) (pa_cons (pe_fld (pv 0) rfl) (pa_cons (pe_fld (pv 0) rfl) (pa_cons (pe_fld (pv 0) rfl) pa_nil))))))), ?_⟩
  rintro ds r ⟨fs, es, c, rfl, hp, ⟨o1, o2, o3, o4, o5⟩, rfl⟩
  left
  show Se P w K _ [.d _] _
  exact se_ret (ee_p (ep_tup (ap_cons (ep_fld T.k_Circuit T.na ep_var hp.i) (ap_cons (ep_fld T.k_Circuit T.na ep_var hp.r) (ap_cons (ep_fld T.k_Circuit T.na ep_var hp.g) (ap_cons (ep_fld T.k_Circuit T.na ep_var hp.o) ap_nil))))))
end
end CC

set_option maxHeartbeats 400000
namespace CC
open PySem PySem.Spec PyProof.Rows L2 Qw
open Evl hiding ea_cons
open Pw (Dt Rp RpL Wk R2d R1d RLd RLn Kq KqL truD flatD fl py pyL rangeD charsD spX2 Xm Xm0 tyD isI isB isS isTp isL rl_isInt rl_isBool rl_isStr rl_isTup rl_isList rl_int rl_max2 rl_min2 rl_len rl_lenT rl_tup rl_tupT rl_lenS rl_all rl_any rn_list rn_listT r2_I0 r2_B0 r2_eqI r2_neI r2_eqS r2_neS r2_eq r2_ne r2_I r2_inS r2_niS r2_in r2_inT r2_ixL r2_ixT r2_ixS r2_addS r2_eqD r2_neD r2_ixM r1_U ixN_at itemD cr_int cr_min2 cr_max2 cr_list cr_tuple cr_len pe_globI pe_globS pe_globR pe_tyname rTupS rInt1 rMin2)
local macro_rules | `(tactic| walk_at "side") => `(tactic| first
  | decide | omega | assumption | (show (0 : Int) < _; omega) | exact (show CDiv _ _ from ⟨by omega, by omega⟩) | exact (show CMul _ _ from Or.inr ⟨by omega, by omega⟩) | exact (show CMul _ _ from Or.inl ⟨by omega, by omega⟩) | exact (show CPow _ _ from ⟨by decide, by decide, by decide⟩))
local macro_rules | `(tactic| walk_at "op") => `(tactic| first
  | exact r2_I0 | exact r2_B0 | exact r2_eqI | exact r2_neI | exact r2_eqS | exact r2_neS
  | exact r2_eq rfl rfl rfl | exact r2_ne rfl rfl rfl
  | (refine' r2_I ?_; walk_at "side") | exact r2_inS | exact r2_niS)
local macro_rules | `(tactic| walk_at "rl") => `(tactic| first
  | exact rl_int | exact rl_max2 | exact rl_min2 | exact rl_len | exact rl_lenT | exact rl_isInt (by first | rfl | assumption) | exact rl_isBool (by first | rfl | assumption) | exact rl_isStr (by first | rfl | assumption) | exact rl_isTup (by first | rfl | assumption) | exact rl_isList (by first | rfl | assumption) | exact rl_tup | exact rl_tupT | (refine' rl_lenS ?_; walk_at "side"))
local macro_rules | `(tactic| walk_at "ap") => `(tactic| first
  | exact ap_nil
  | (refine' ap_cons ?eah ?eat; (case eah => walk_at "ep"); (case eat => walk_at "ap")))
local macro_rules | `(tactic| walk_at "ep") => `(tactic| first
  | exact ep_int | exact ep_bl | exact ep_str | exact ep_non | exact ep_ty | exact ep_var
  | (refine' ep_op ?eva ?evb ?evc; (case eva => walk_at "ep"); (case evb => walk_at "ep"); (case evc => walk_at "op"))
  | (refine' ep_cb ?evd ?eve; (case evd => walk_at "ap"); (case eve => walk_at "rl"))
  | (refine' ep_un ?evf r1_U; (case evf => walk_at "ep"))
  | (refine' ep_tup ?evg ?evi; (case evg => walk_at "ap"); (case evi => exact Nat.le_of_ble_eq_true rfl))
  | (refine' ep_lst ?evh ?evj; (case evh => walk_at "ap"); (case evj => exact Nat.le_of_ble_eq_true rfl))
  | assumption)
local macro_rules | `(tactic| walk_at "ee") => `(tactic| (refine' ee_p ?eep; (case eep => walk_at "ep")))
local macro_rules | `(tactic| walk_at "te") => `(tactic| (refine' te_p ?tep; (case tep => walk_at "tp")))
local macro_rules | `(tactic| walk_at "tp") => `(tactic| first
  | (refine' tp_test ?tea; (case tea => walk_at "ep"))
  | (refine' tp_B ?teb; (case teb => walk_at "ep"))
  | (refine' tp_not ?tec; (case tec => walk_at "tp"))
  | (refine' tp_or ?ted ?tee; (case ted => walk_at "tp"); (case tee => intro _; walk_at "tp"))
  | (refine' tp_and ?tef ?teg; (case tef => walk_at "tp"); (case teg => intro _; walk_at "tp"))
  | assumption)
section
variable {P : Program} {w : World} {K : PySem.W.Frag} {mg : Str → Option Value} {base : Heap}

/-! ### Circuit.__init__ -/
def formOk (is rs gs os : List Dt) : Bool := is.all isName && (os.all isName && (rs.all isReg && gs.all isGate))
def gmap (gs : List Gt) : KD := gs.map fun g => (Sum.inr g.l, g.d)
def circE (c : Cp) (ord : List Gt) : List Dt := [.tup (c.is.map .str), .tup (c.rs.map regD), .tup (c.gs.map Gt.d), .tup (c.os.map .str), dk (gmap c.gs), .lst (ord.map Gt.d)]
def usesOf (c : Cp) : List Str := (c.gs.flatMap Gt.ps ++ c.rs.map Prod.snd) ++ c.os
def ordI (K : PySem.W.Frag) (c : Cp) : Except Str (List Str × List Gt) → Ri
  | .ok l => .f CF (circE c l.2)
  | .error x => .x (badC K "loop" x)
def sizeI (K : PySem.W.Frag) (c : Cp) : Ri := if (linesOf c.is c.rs c.gs).length ≤ 400 ∧ (srcOf c.is c.rs).length ≤ 40 then ordI K c (order (srcOf c.is c.rs) c.gs) else .x (badC K "size" "")
def orI (f : Str → Xn) (z : Ri) : Option Str → Ri
  | none => z
  | some x => .x (f x)
def initR (K : PySem.W.Frag) (c : Cp) : Ri := orI (badC K "twice") (orI (badC K "unknown") (sizeI K c) ((usesOf c).find? fun y => !decide (y ∈ linesOf c.is c.rs c.gs))) (dupOf [] (linesOf c.is c.rs c.gs))
def seqOf (a : Dt) (xs : List Dt) : Prop := a = .tup xs ∨ a = .lst xs
def R_Circuit_init (K : PySem.W.Frag) (ds : List Dt) (r : Ri) : Prop := ∃ a1 a2 a3 a4 is rs gs os, ds = [a1, a2, a3, a4] ∧ (seqOf a1 is ∧ seqOf a2 rs ∧ seqOf a3 gs ∧ seqOf a4 os) ∧ (is.length ≤ 1000 ∧ rs.length ≤ 1000 ∧ gs.length ≤ 1000 ∧ os.length ≤ 1000) ∧ (is.all okS = true ∧ rs.all okR = true ∧ gs.all okG = true ∧ os.all okS = true) ∧
  ((formOk is rs gs os = false ∧ r = .x (badC K "form" "")) ∨ (formOk is rs gs os = true ∧ ∃ c : Cp, is = c.is.map .str ∧ rs = c.rs.map regD ∧ gs = c.gs.map Gt.d ∧ os = c.os.map .str ∧ c.ok ∧ r = initR K c))
theorem l_Circuit_init (K : PySem.W.Frag) (ds : List Dt) (r : Ri) (h : R_Circuit_init K ds r) : ds.length + 1 = 5 := by
  obtain ⟨_, _, _, _, _, _, _, _, rfl, _⟩ := h
  rfl
def iOut (E : XK) (C p : Addr) : Ri → Out
  | .f fs es => .nx (.ow (some p) (.ins C fs es) :: List.replicate 9 .x)
  | .x y => .rz (fun cls d _ H => E cls d H) y (List.replicate 10 .x)
theorem does_i {E : XK} {C p : Addr} {s : TS} {env : En} {r : Ri} (h : Se P w K s env (iOut E C p r)) : DoesI P w K E C p s env r := by
  cases r with
  | f fs es => exact ⟨_, rfl, h⟩
  | x y => exact ⟨_, h⟩
theorem ep_tuple {env : En} {i : Nat} {a : Dt} {xs : List Dt} (hi : env[i]? = some (.d a)) (h : seqOf a xs) : Ep P w K (tCB (rTupS K) (tCons (tVar i) tNil)) env (.tup xs) := by
  rcases h with rfl | rfl
  · exact ep_cb (ap_cons (ep_var hi) ap_nil) rl_tupT
  · exact ep_cb (ap_cons (ep_var hi) ap_nil) rl_tup
def rsOut (E : XK) (env : En) : Rs → Out
  | .x y => .rz (fun cls d _ H => E cls d H) y (List.replicate env.length .x)
  | _ => .nx env
/-- a check called as a statement -/
theorem se_chk {E : XK} {env : En} {tA : TA} {ds : List Dt} {R : List Dt → Rs → Prop} {r : Rs} (h : EpA P w K tA env ds) (hf : R ds r) (hr : ∀ u, r ≠ .o u) : Se P w K (tDrop (tCallS (spR P w K R) (WE fun cls d _ H => E cls d H) tA)) env (rsOut E env r) := by
  cases r with
  | d d => exact se_drop (ee_p (ep_callS h hf))
  | o u => exact absurd rfl (hr u)
  | x y => exact se_lez (se_dropX (er_callS h hf)) (le_x rfl)
theorem orX_no {f : Str → Xn} {o : Option Str} (u : Ow) : orX f o ≠ .o u := by
  cases o <;> intro z <;> cases z
theorem nodup_of : ∀ (xs seen : List Str), seen.Nodup → dupOf seen xs = none → (seen ++ xs).Nodup
  | [], seen, hs, _ => by simpa using hs
  | a :: xs, seen, hs, h => by
    have hd : ¬ a ∈ seen := fun e => by simp [dupOf, e] at h
    have h' : dupOf (seen ++ [a]) xs = none := by simpa [dupOf, hd] using h
    have := nodup_of xs (seen ++ [a]) (by
      rw [List.nodup_append]
      exact ⟨hs, by simp, fun x hx y hy => by
        simp at hy
        subst hy
        exact fun e => hd (e ▸ hx)⟩) h'
    simpa [List.append_assoc] using this
theorem put_new {kvs : KD} {k : Key} {d : Dt} (h : ∀ p ∈ kvs, p.1 ≠ k) : putD kvs k d = kvs ++ [(k, d)] := by
  unfold putD
  rw [if_neg]
  intro z
  obtain ⟨p, hp, e⟩ := List.any_eq_true.mp z
  exact h p hp (of_decide_eq_true e)
theorem gmap_fold : ∀ (gs pre : List Gt), ((pre ++ gs).map Gt.l).Nodup → (gs.filter fun _ => true).foldl (fun q g => putD q (.inr g.l) g.d) (gmap pre) = gmap (pre ++ gs) := by
  intro gs
  rw [show gs.filter (fun _ => true) = gs by simp]
  induction gs with
  | nil => intro pre _; simp
  | cons g gs ih =>
    intro pre h
    rw [List.foldl_cons, put_new]
    · have e : gmap pre ++ [((Sum.inr g.l : Key), g.d)] = gmap (pre ++ [g]) := by simp [gmap]
      rw [e, ih (pre ++ [g]) (by simpa [List.append_assoc] using h)]
      simp
    · intro p hp e
      obtain ⟨g', hg', rfl⟩ := List.mem_map.mp hp
      have e' : g'.l = g.l := Sum.inr.inj e
      rw [List.map_append, List.nodup_append] at h
      exact h.2.2 g'.l (List.mem_map_of_mem hg') g.l (by simp) e'
set_option maxHeartbeats 4000000
abbrev s_Circuit_init : Stmt := meth 23 0
abbrev N_Circuit_init : List Str := ["self", "inputs", "registers", "gates", "outputs", "pins", "gate", "pin", "taken", "pair"]
theorem sc_Circuit_init : FnScope N_Circuit_init ["self", "inputs", "registers", "gates", "outputs"] (defScope s_Circuit_init) := ⟨rfl, rfl, rfl, by decide +kernel, rfl, by decide +kernel, by decide +kernel⟩
theorem k_Circuit_init (T : Txt K mg) (D : Di K mg (He.ga K "Circuit") "Circuit" "Circuit.__init__" ["self", "inputs", "registers", "gates", "outputs"] s_Circuit_init)  (G__check_form : Fx P w K mg base 4 "_check_form" ["inputs", "registers", "gates", "outputs"] (spR P w K (R_check_form K))) (G__check_driven_once : Fx P w K mg base 3 "_check_driven_once" ["lines"] (spR P w K (R_check_driven_once K))) (M_Circuit_lines : Mx P w K mg base 2 (He.ga K "Circuit") "lines" ["self"] (spR P w K (R_Circuit_lines K))) (G__check_known : Fx P w K mg base 3 "_check_known" ["lines", "names"] (spR P w K (R_check_known K))) (G__check_size : Fx P w K mg base 3 "_check_size" ["lines", "sources"] (spR P w K (R_check_size K))) (M_Circuit_sources : Mx P w K mg base 1 (He.ga K "Circuit") "sources" ["self"] (spR P w K (R_Circuit_sources K))) (G__in_order : Fx P w K mg base 3 "_in_order" ["sources", "gates"] (spR P w K (R_in_order K))) : Ix P w K mg base 5 (He.ga K "Circuit") "Circuit" ["self", "inputs", "registers", "gates", "outputs"] (spI P w K (He.ga K "Circuit") (R_Circuit_init K)) := by
  refine Ix.of D sc_Circuit_init (l_Circuit_init K) fun f cdv A outer s H E hr tk => ?_
  refine ⟨_, (pss_cons (ps_fld (pv 0) (pe_callTy cr_tuple (by rfl) T.f_tuple (by decide +kernel) (pa_cons (pv 1) pa_nil)) rfl)
      (pss_cons (ps_fld (pv 0) (pe_callTy cr_tuple (by rfl) T.f_tuple (by decide +kernel) (pa_cons (pv 2) pa_nil)) rfl)
      (pss_cons (ps_fld (pv 0) (pe_callTy cr_tuple (by rfl) T.f_tuple (by decide +kernel) (pa_cons (pv 3) pa_nil)) rfl)
      (pss_cons (ps_fld (pv 0) (pe_callTy cr_tuple (by rfl) T.f_tuple (by decide +kernel) (pa_cons (pv 4) pa_nil)) rfl)
      (pss_cons (ps_expr (pe_fxS G__check_form (hr.mono (by decide)) tk (pa_cons (pe_fld (pv 0) rfl) (pa_cons (pe_fld (pv 0) rfl) (pa_cons (pe_fld (pv 0) rfl) (pa_cons (pe_fld (pv 0) rfl) pa_nil))))))
      (pss_cons (ps_expr (pe_fxS G__check_driven_once (hr.mono (by decide)) tk (pa_cons (pe_mx0 M_Circuit_lines T.k_Circuit (hr.mono (by decide)) (pv 0)) pa_nil)))
      (pss_cons (ps_setLc2 (i := 5) (own := [("gate", 6), ("pin", 7)]) (vs1 := [7]) (g := gName 6) (g1 := gName 7) (tt := tYes) (tt1 := tYes) rfl sc_Circuit_init.nd rfl rfl (sw_true rfl rfl rfl (by decide +kernel)) (pi_tup (pe_fld (pv 0) rfl)) (blkOk_by (N := N_Circuit_init) (sc := defScope s_Circuit_init) (by decide +kernel)) (by decide) (fun _ _ _ _ _ => (pgn (i := 6) sc_Circuit_init.nd)) (fun _ _ _ _ _ => pts_nil) (fun _ _ _ _ _ => (show PI _ _ _ (iTup K _) from (pi_tup (pe_ix (show IxR _ (rIxT K) from ix_tup) (pv 6) pe_int (fun _ _ => rfl))))) (fun _ _ _ _ _ => (pgn (i := 7) sc_Circuit_init.nd)) (fun _ _ _ _ _ => pts_nil) (fun _ _ _ _ _ => (pv 7)))
      (pss_cons (ps_setLc (i := 8) (own := [("pair", 9)]) (g := gName 9) (tt := tYes) rfl sc_Circuit_init.nd rfl rfl (sw_true rfl rfl rfl (by decide +kernel)) (pi_tup (pe_fld (pv 0) rfl)) (blkOk_by (N := N_Circuit_init) (sc := defScope s_Circuit_init) (by decide +kernel)) (fun _ _ _ _ _ => (pgn (i := 9) sc_Circuit_init.nd)) (fun _ _ _ _ _ => pts_nil) (fun _ _ _ _ _ => (pe_ix (show IxR _ (rIxT K) from ix_tup) (pv 9) pe_int (fun _ _ => rfl))))
      (pss_cons (ps_expr (pe_fxS G__check_known (hr.mono (by decide)) tk (pa_cons (pe_mx0 M_Circuit_lines T.k_Circuit (hr.mono (by decide)) (pv 0)) (pa_cons (pe_lst (StX.pa_star (pv 5) (StX.pa_star (pv 8) (StX.pa_star (pe_fld (pv 0) rfl) pa_nil)))) pa_nil))))
      (pss_cons (ps_expr (pe_fxS G__check_size (hr.mono (by decide)) tk (pa_cons (pe_mx0 M_Circuit_lines T.k_Circuit (hr.mono (by decide)) (pv 0)) (pa_cons (pe_mx0 M_Circuit_sources T.k_Circuit (hr.mono (by decide)) (pv 0)) pa_nil))))
      (pss_cons (ps_fld (pv 0) (pe_dc (own := [("gate", 6)]) (g := gName 6) (tt := tYes) rfl sc_Circuit_init.nd (pi_tup (pe_fld (pv 0) rfl)) (blkOk_by (N := N_Circuit_init) (sc := defScope s_Circuit_init) (by decide +kernel)) (fun _ _ _ _ _ => (pgn (i := 6) sc_Circuit_init.nd)) (fun _ _ _ _ _ => pts_nil) (fun _ _ _ _ _ => (pe_ix (show IxR _ (rIxT K) from ix_tup) (pv 6) pe_int (fun _ _ => rfl))) (fun _ _ _ _ _ => (pv 6))) rfl)
      (pss_one (ps_fld (pv 0) (pe_fxS G__in_order (hr.mono (by decide)) tk (pa_cons (pe_mx0 M_Circuit_sources T.k_Circuit (hr.mono (by decide)) (pv 0)) (pa_cons (pe_fld (pv 0) rfl) pa_nil))) rfl))))))))))))), ?_⟩
  rintro p ds r ⟨a1, a2, a3, a4, is, rs, gs, os, rfl, ⟨s1, s2, s3, s4⟩, ⟨n1, n2, n3, n4⟩, ⟨o1, o2, o3, o4⟩, hr⟩
  refine does_i ?_
  show Se P w K _ [.ow (some p) (.ins (He.ga K "Circuit") [] []), .d a1, .d a2, .d a3, .d a4, .u, .u, .u, .u, .u] _
  refine se_seq (se_fldN T.k_Circuit T.na (ee_p (ep_tuple rfl s1))) ?_
  refine se_seq (se_fldN T.k_Circuit T.na (ee_p (ep_tuple rfl s2))) ?_
  refine se_seq (se_fldN T.k_Circuit T.na (ee_p (ep_tuple rfl s3))) ?_
  refine se_seq (se_fldN T.k_Circuit T.na (ee_p (ep_tuple rfl s4))) ?_
  show Se P w K _ [.ow (some p) (.ins (He.ga K "Circuit") ["inputs", "registers", "gates", "outputs"] [.tup is, .tup rs, .tup gs, .tup os]), .d a1, .d a2, .d a3, .d a4, .u, .u, .u, .u, .u] _
  have fi : ∀ {en : En}, en[0]? = some (.ow (some p) (.ins (He.ga K "Circuit") ["inputs", "registers", "gates", "outputs"] [.tup is, .tup rs, .tup gs, .tup os])) → Ep P w K (tFld K (tVar 0) "inputs") en (.tup is) ∧ Ep P w K (tFld K (tVar 0) "registers") en (.tup rs) ∧ Ep P w K (tFld K (tVar 0) "gates") en (.tup gs) ∧ Ep P w K (tFld K (tVar 0) "outputs") en (.tup os) := fun h => ⟨ep_fldO T.k_Circuit T.na h rfl, ep_fldO T.k_Circuit T.na h rfl, ep_fldO T.k_Circuit T.na h rfl, ep_fldO T.k_Circuit T.na h rfl⟩
  refine se_seqO (se_chk (ap_cons (fi rfl).1 (ap_cons (fi rfl).2.1 (ap_cons (fi rfl).2.2.1 (ap_cons (fi rfl).2.2.2 ap_nil)))) ⟨is, rs, gs, os, rfl, ⟨by omega, by omega, by omega, by omega⟩, ⟨o1, o2, o3, o4⟩, rfl⟩ (fun u => by split <;> intro z <;> cases z)) ?_
  rcases hr with ⟨hf, rfl⟩ | ⟨hf, c, rfl, rfl, rfl, rfl, hok, rfl⟩
  · right
    unfold formOk at hf
    rw [if_neg (by rw [hf]; exact Bool.false_ne_true)]
    exact ⟨rfl, rfl⟩
  left
  unfold formOk at hf
  rw [if_pos hf]
  refine ⟨_, rfl, ?_⟩
  have ⟨b1, b2, b3, b4, b5⟩ := hok
  have hP : HasP ["inputs", "registers", "gates", "outputs"] [.tup (c.is.map .str), .tup (c.rs.map regD), .tup (c.gs.map Gt.d), .tup (c.os.map .str)] c := ⟨rfl, rfl, rfl, rfl, by decide +kernel⟩
  have eL : ∀ {en : En}, en[0]? = some (.ow (some p) (.ins (He.ga K "Circuit") ["inputs", "registers", "gates", "outputs"] [.tup (c.is.map .str), .tup (c.rs.map regD), .tup (c.gs.map Gt.d), .tup (c.os.map .str)])) → Ep P w K (tMeth (He.ga K "Circuit") "lines" (spR P w K (R_Circuit_lines K)) [] E0 (tVar 0) tNil) en (.lst ((linesOf c.is c.rs c.gs).map .str)) := fun h => po_dt (po_methL (zs := (linesOf c.is c.rs c.gs).map .str) h ⟨_, _, c, rfl, hP, hok, rfl⟩ (flat_strsD _))
  have eS : ∀ {en : En}, en[0]? = some (.ow (some p) (.ins (He.ga K "Circuit") ["inputs", "registers", "gates", "outputs"] [.tup (c.is.map .str), .tup (c.rs.map regD), .tup (c.gs.map Gt.d), .tup (c.os.map .str)])) → Ep P w K (tMeth (He.ga K "Circuit") "sources" (spR P w K (R_Circuit_sources K)) [] E0 (tVar 0) tNil) en (.lst ((srcOf c.is c.rs).map .str)) := fun h => po_dt (po_methL (zs := (srcOf c.is c.rs).map .str) h ⟨_, _, c, rfl, hP, hok, rfl⟩ (flat_strsD _))
  have hll : (linesOf c.is c.rs c.gs).length ≤ 3000 := by simp [linesOf, srcOf]; omega
  refine se_seqO (se_chk (ap_cons (eL rfl) ap_nil) ⟨_, rfl, hll, rfl⟩ orX_no) ?_
  cases hd : dupOf [] (linesOf c.is c.rs c.gs) with
  | some x =>
    right
    refine ⟨rfl, ?_⟩
    unfold initR
    rw [hd]
    rfl
  | none =>
    left
    refine ⟨_, rfl, ?_⟩
    have htot : ((c.gs.flatMap fun g => g.ps.map Dt.str)).length ≤ 40000 := by
      have : ∀ l : List Gt, (∀ g ∈ l, g.ps.length ≤ 4) → (l.flatMap fun g => g.ps.map Dt.str).length ≤ 4 * l.length := by
        intro l
        induction l with
        | nil => intro _; simp
        | cons g l ih =>
          intro h
          have h1 := ih fun x hx => h x (by simp [hx])
          have h2 := h g (by simp)
          simp only [List.flatMap_cons, List.length_append, List.length_map, List.length_cons]
          omega
      have := this c.gs b5
      omega
    refine se_seq (se_asg (d := .lst ((c.gs.flatMap Gt.ps).map .str)) (ee_p (ep_new (by
      have h := np_lc2T (P := P) (w := w) (K := K) (te := tVar 7) (g := gName 6) (g1 := gName 7) (vs := [6, 7]) (vs1 := [7]) (wi := iTup K (tFld K (tVar 0) "gates")) (wi1 := iTup K (tOp (rIxT K) (tVar 6) (tC (.int 2)))) (env := [.ow (some p) (.ins (He.ga K "Circuit") ["inputs", "registers", "gates", "outputs"] [.tup (c.is.map .str), .tup (c.rs.map regD), .tup (c.gs.map Gt.d), .tup (c.os.map .str)]), .d a1, .d a2, .d a3, .d a4, .u, .u, .u, .u, .u]) c.gs Gt.d (ip_tup (fi rfl).2.2.1) (fun g => g.ps.map .str) htot id fun i g hg => ⟨_, fun F0 H0 F H σ v S r Q q => q _ (by simp only [L2.wipe]; apply List.ext_getElem?; intro i; simp only [List.getElem?_set, List.length_set]; by_cases e1 : 6 = i <;> by_cases e2 : 7 = i <;> simp [e1, e2]) (fun _ h => own_set h) (S.setD r), ip_tup (ep_gate rfl).2.2, fun d hd => ⟨_, gc_name, ep_var⟩⟩
      rw [List.map_id] at h
      have e : (c.gs.flatMap fun g => g.ps.map Dt.str) = (c.gs.flatMap Gt.ps).map Dt.str := by rw [List.map_flatMap]
      rw [e] at h
      exact h)))) ?_
    refine se_seq (se_asg (d := .lst (c.rs.map fun (r : RegT) => Dt.str r.2)) (ee_p (ep_new (np_mapT c.rs regD (ip_tup (fi rfl).2.1) (by omega) (fun r => .str r.2) fun i r _ => (ep_reg rfl).2)))) ?_
    show Se P w K _ [.ow (some p) (.ins (He.ga K "Circuit") ["inputs", "registers", "gates", "outputs"] [.tup (c.is.map .str), .tup (c.rs.map regD), .tup (c.gs.map Gt.d), .tup (c.os.map .str)]), .d a1, .d a2, .d a3, .d a4, .d (.lst ((c.gs.flatMap Gt.ps).map .str)), .u, .u, .d (.lst (c.rs.map fun (r : RegT) => Dt.str r.2)), .u] _
    have hu2 : (usesOf c).length ≤ 40000 := by
      have e : (c.gs.flatMap Gt.ps).length = (c.gs.flatMap fun g => g.ps.map Dt.str).length := by
        rw [show (c.gs.flatMap fun g => g.ps.map Dt.str) = (c.gs.flatMap Gt.ps).map Dt.str by rw [List.map_flatMap], List.length_map]
      have h4 : (c.gs.flatMap fun g => g.ps.map Dt.str).length ≤ 4000 := by
        have : ∀ l : List Gt, (∀ g ∈ l, g.ps.length ≤ 4) → (l.flatMap fun g => g.ps.map Dt.str).length ≤ 4 * l.length := by
          intro l
          induction l with
          | nil => intro _; simp
          | cons g l ih =>
            intro h
            have h1 := ih fun x hx => h x (by simp [hx])
            have h2 := h g (by simp)
            simp only [List.flatMap_cons, List.length_append, List.length_map, List.length_cons]
            omega
        have := this c.gs b5
        omega
      simp only [usesOf, List.length_append, List.length_map]
      omega
    refine se_seqO (se_chk (ap_cons (eL rfl) (ap_cons (d := .lst ((usesOf c).map .str)) (ep_is (ep_lst (ap_starL ep_var (ap_starL ep_var (ap_starT (fi rfl).2.2.2 ap_nil))) (by
      have := hu2
      simp only [usesOf, List.length_append, List.length_map] at this
      simp only [List.length_append, List.length_map, List.length_nil]
      omega)) (by simp [usesOf])) ap_nil)) ⟨_, _, rfl, hll, hu2, rfl⟩ orX_no) ?_
    cases hk : (usesOf c).find? fun y => !decide (y ∈ linesOf c.is c.rs c.gs) with
    | some x =>
      right
      refine ⟨rfl, ?_⟩
      unfold initR
      rw [hd, hk]
      rfl
    | none =>
      left
      refine ⟨_, rfl, ?_⟩
      refine se_seqO (se_chk (ap_cons (eL rfl) (ap_cons (eS rfl) ap_nil)) ⟨_, _, rfl, rfl⟩ (fun u => by split <;> intro z <;> cases z)) ?_
      rw [List.length_map, List.length_map]
      by_cases hz : (linesOf c.is c.rs c.gs).length ≤ 400 ∧ (srcOf c.is c.rs).length ≤ 40
      · left
        rw [if_pos hz]
        refine ⟨_, rfl, ?_⟩
        have nd := nodup_of _ [] List.nodup_nil hd
        have nd2 : (c.gs.map Gt.l).Nodup := by
          have : (linesOf c.is c.rs c.gs).Nodup := by simpa using nd
          unfold linesOf at this
          rw [List.nodup_append] at this
          exact this.2.1
        refine se_seq (se_fldN (d := dk (gmap c.gs)) T.k_Circuit T.na (ee_p (po_dt (by
          have h := po_dc (P := P) (w := w) (K := K) (tt := tYes) (ty := tOp (rIxT K) (tVar 6) (tC (.int 0))) (te := tVar 6) (g := gName 6) (wi := iTup K (tFld K (tVar 0) "gates")) (env := [.ow (some p) (.ins (He.ga K "Circuit") ["inputs", "registers", "gates", "outputs"] [.tup (c.is.map .str), .tup (c.rs.map regD), .tup (c.gs.map Gt.d), .tup (c.os.map .str)]), .d a1, .d a2, .d a3, .d a4, .d (.lst ((c.gs.flatMap Gt.ps).map .str)), .u, .u, .d (.lst (c.rs.map fun (r : RegT) => Dt.str r.2)), .u]) (vs := [6]) c.gs Gt.d (ip_tup (fi rfl).2.2.1) (by omega) (fun _ => true) (fun g => Sum.inr g.l) (fun g => g.d) fun i a h => ⟨_, gc_name, tp_yes, fun _ => ⟨(ep_gate rfl).1, ep_var⟩⟩
          rw [show (c.gs.filter fun _ => true).foldl (fun q g => putD q (Sum.inr g.l) g.d) [] = gmap c.gs from gmap_fold c.gs [] (by simpa using nd2)] at h
          exact h)))) ?_
        have hP5 : HasP ["inputs", "registers", "gates", "outputs", "gate_of"] [.tup (c.is.map .str), .tup (c.rs.map regD), .tup (c.gs.map Gt.d), .tup (c.os.map .str), dk (gmap c.gs)] c := ⟨rfl, rfl, rfl, rfl, by decide +kernel⟩
        have args : EpA P w K (tCons (tMeth (He.ga K "Circuit") "sources" (spR P w K (R_Circuit_sources K)) [] E0 (tVar 0) tNil) (tCons (tFld K (tVar 0) "gates") tNil)) [.ow (some p) (.ins (He.ga K "Circuit") ["inputs", "registers", "gates", "outputs", "gate_of"] [.tup (c.is.map .str), .tup (c.rs.map regD), .tup (c.gs.map Gt.d), .tup (c.os.map .str), dk (gmap c.gs)]), .d a1, .d a2, .d a3, .d a4, .d (.lst ((c.gs.flatMap Gt.ps).map .str)), .u, .u, .d (.lst (c.rs.map fun (r : RegT) => Dt.str r.2)), .u] [.lst ((srcOf c.is c.rs).map .str), .tup (c.gs.map Gt.d)] :=
          ap_cons (po_dt (po_methL (zs := (srcOf c.is c.rs).map .str) rfl ⟨_, _, c, rfl, hP5, hok, rfl⟩ (flat_strsD _))) (ap_cons (ep_fldO T.k_Circuit T.na rfl rfl) ap_nil)
        have hargs : R_in_order K [.lst ((srcOf c.is c.rs).map .str), .tup (c.gs.map Gt.d)] (ordR K (order (srcOf c.is c.rs) c.gs)) := ⟨_, _, rfl, ⟨by omega, by omega, fun g hg => by have := b5 g hg; omega⟩, rfl⟩
        have e : initR K c = ordI K c (order (srcOf c.is c.rs) c.gs) := by
          unfold initR
          rw [hd, hk]
          show sizeI K c = _
          unfold sizeI
          rw [if_pos hz]
        rw [e]
        cases ho : order (srcOf c.is c.rs) c.gs with
        | error x =>
          rw [ho] at hargs
          exact se_lez (se_fldX (er_callS args hargs)) (le_x rfl)
        | ok l =>
          rw [ho] at hargs
          exact se_le (se_fldN (t' := some p) (fs := ["inputs", "registers", "gates", "outputs", "gate_of"]) (ds := [.tup (c.is.map .str), .tup (c.rs.map regD), .tup (c.gs.map Gt.d), .tup (c.os.map .str), dk (gmap c.gs)]) (d := .lst (l.2.map Gt.d)) T.k_Circuit T.na (ee_p (po_dt (po_callS args hargs)))) (Le.s (Le.x (Le.x (Le.x (Le.x (Le.x (Le.x (Le.x (Le.x (Le.x Le.nil))))))))))
      · right
        rw [if_neg hz]
        refine ⟨rfl, ?_⟩
        unfold initR
        rw [hd, hk]
        show iOut E _ p (sizeI K c) = _
        unfold sizeI
        rw [if_neg hz]
        rfl
end
end CC

set_option maxHeartbeats 400000
namespace CC
open PySem PySem.Spec PyProof.Rows L2 Qw
open Evl hiding ea_cons
open Pw (Dt Rp RpL Wk R2d R1d RLd RLn Kq KqL truD flatD fl py pyL rangeD charsD spX2 Xm Xm0 tyD isI isB isS isTp isL rl_isInt rl_isBool rl_isStr rl_isTup rl_isList rl_int rl_max2 rl_min2 rl_len rl_lenT rl_tup rl_tupT rl_lenS rl_all rl_any rn_list rn_listT r2_I0 r2_B0 r2_eqI r2_neI r2_eqS r2_neS r2_eq r2_ne r2_I r2_inS r2_niS r2_in r2_inT r2_ixL r2_ixT r2_ixS r2_addS r2_eqD r2_neD r2_ixM r1_U ixN_at itemD cr_int cr_min2 cr_max2 cr_list cr_tuple cr_len pe_globI pe_globS pe_globR pe_tyname rTupS rInt1 rMin2)
local macro_rules | `(tactic| walk_at "side") => `(tactic| first
  | decide | omega | assumption | (show (0 : Int) < _; omega) | exact (show CDiv _ _ from ⟨by omega, by omega⟩) | exact (show CMul _ _ from Or.inr ⟨by omega, by omega⟩) | exact (show CMul _ _ from Or.inl ⟨by omega, by omega⟩) | exact (show CPow _ _ from ⟨by decide, by decide, by decide⟩))
local macro_rules | `(tactic| walk_at "op") => `(tactic| first
  | exact r2_I0 | exact r2_B0 | exact r2_eqI | exact r2_neI | exact r2_eqS | exact r2_neS
  | exact r2_eq rfl rfl rfl | exact r2_ne rfl rfl rfl
  | (refine' r2_I ?_; walk_at "side") | exact r2_inS | exact r2_niS)
local macro_rules | `(tactic| walk_at "rl") => `(tactic| first
  | exact rl_int | exact rl_max2 | exact rl_min2 | exact rl_len | exact rl_lenT | exact rl_isInt (by first | rfl | assumption) | exact rl_isBool (by first | rfl | assumption) | exact rl_isStr (by first | rfl | assumption) | exact rl_isTup (by first | rfl | assumption) | exact rl_isList (by first | rfl | assumption) | exact rl_tup | exact rl_tupT | (refine' rl_lenS ?_; walk_at "side"))
local macro_rules | `(tactic| walk_at "ap") => `(tactic| first
  | exact ap_nil
  | (refine' ap_cons ?eah ?eat; (case eah => walk_at "ep"); (case eat => walk_at "ap")))
local macro_rules | `(tactic| walk_at "ep") => `(tactic| first
  | exact ep_int | exact ep_bl | exact ep_str | exact ep_non | exact ep_ty | exact ep_var
  | (refine' ep_op ?eva ?evb ?evc; (case eva => walk_at "ep"); (case evb => walk_at "ep"); (case evc => walk_at "op"))
  | (refine' ep_cb ?evd ?eve; (case evd => walk_at "ap"); (case eve => walk_at "rl"))
  | (refine' ep_un ?evf r1_U; (case evf => walk_at "ep"))
  | (refine' ep_tup ?evg ?evi; (case evg => walk_at "ap"); (case evi => exact Nat.le_of_ble_eq_true rfl))
  | (refine' ep_lst ?evh ?evj; (case evh => walk_at "ap"); (case evj => exact Nat.le_of_ble_eq_true rfl))
  | assumption)
local macro_rules | `(tactic| walk_at "ee") => `(tactic| (refine' ee_p ?eep; (case eep => walk_at "ep")))
local macro_rules | `(tactic| walk_at "te") => `(tactic| (refine' te_p ?tep; (case tep => walk_at "tp")))
local macro_rules | `(tactic| walk_at "tp") => `(tactic| first
  | (refine' tp_test ?tea; (case tea => walk_at "ep"))
  | (refine' tp_B ?teb; (case teb => walk_at "ep"))
  | (refine' tp_not ?tec; (case tec => walk_at "tp"))
  | (refine' tp_or ?ted ?tee; (case ted => walk_at "tp"); (case tee => intro _; walk_at "tp"))
  | (refine' tp_and ?tef ?teg; (case tef => walk_at "tp"); (case teg => intro _; walk_at "tp"))
  | assumption)
section
variable {P : Program} {w : World} {K : PySem.W.Frag} {mg : Str → Option Value} {base : Heap}

/-! ### Circuit.above -/
def circD (K : PySem.W.Frag) (c : Cp) (ord : List Gt) : Dt := .obj (He.ga K "Circuit") CF (circE c ord)
def pinsOf (gs : List Gt) (x : Str) : List Str := ((gs.find? fun g => decide (g.l = x)).map Gt.ps).getD []
def abStep (s : List Str × List Str) (p : Str) : List Str × List Str := if p ∈ s.1 then s else (s.1 ++ [p], s.2 ++ [p])
def abN (gs : List Gt) : Nat → List Str → List Str → List Str
  | 0, f, _ => f
  | n + 1, f, ws => match ws.getLast? with
    | none => f
    | some x => abN gs n ((pinsOf gs x).foldl abStep (f, ws.dropLast)).1 ((pinsOf gs x).foldl abStep (f, ws.dropLast)).2
def aboveL (gs : List Gt) (x : Str) : List Str := abN gs (1 + (gs.flatMap Gt.ps).length) [x] [x]
def R_Circuit_above (K : PySem.W.Frag) (ds : List Dt) (r : Rs) : Prop := ∃ c ord x, ds = [circD K c ord, .str x] ∧ c.ok ∧ r = .o (.dk (kn (aboveL c.gs x)))
theorem l_Circuit_above (K : PySem.W.Frag) (ds : List Dt) (r : Rs) (h : R_Circuit_above K ds r) : ds.length = 2 := by
  obtain ⟨_, _, _, rfl, _⟩ := h
  rfl
def cnt (U f : List Str) : Nat := (U.filter fun u => !decide (u ∈ f)).length
theorem cnt_le (U f : List Str) : cnt U f ≤ U.length := List.length_filter_le _ _
theorem cnt_add {U f : List Str} {p : Str} (h1 : p ∈ U) (h2 : ¬ p ∈ f) : cnt U (f ++ [p]) + 1 ≤ cnt U f := by
  unfold cnt
  have e : (U.filter fun u => !decide (u ∈ f ++ [p])) = (U.filter fun u => !decide (u ∈ f)).filter fun u => !decide (u = p) := by
    rw [List.filter_filter]
    congr 1
    funext u
    simp [Bool.and_comm]
  rw [e]
  exact List.length_filter_lt_length_iff_exists.mpr ⟨p, by simp [h1, h2], by simp⟩
theorem gval (gs : List Gt) (x : Str) : (valD (gmap gs) (.inr x)).getD (.tup [.str "", .str "low", .tup []]) = ((gs.find? fun g => decide (g.l = x)).getD ⟨"", "low", []⟩).d := by
  unfold valD gmap
  induction gs with
  | nil => rfl
  | cons g gs ih =>
    rw [List.map_cons, List.find?_cons, List.find?_cons]
    by_cases e : g.l = x
    · subst e
      simp
    · have h1 : decide ((Sum.inr g.l : Key) = Sum.inr x) = false := decide_eq_false fun h => e (Sum.inr.inj h)
      simp only [h1, decide_eq_false e]
      exact ih
theorem pins_mem {gs : List Gt} {x p : Str} (h : p ∈ pinsOf gs x) : p ∈ gs.flatMap Gt.ps := by
  unfold pinsOf at h
  cases e : gs.find? fun g => decide (g.l = x) with
  | none => rw [e] at h; cases h
  | some g =>
    rw [e] at h
    exact List.mem_flatMap.mpr ⟨g, List.mem_of_find?_eq_some e, h⟩
theorem pins_get {gs : List Gt} {x : Str} : ((gs.find? fun g => decide (g.l = x)).getD ⟨"", "low", []⟩).ps = pinsOf gs x := by
  unfold pinsOf
  cases gs.find? fun g => decide (g.l = x) <;> rfl
theorem Cp.pins {c : Cp} (h : c.ok) : (c.gs.flatMap Gt.ps).length ≤ 4000 := by
  obtain ⟨_, _, h3, _, h5⟩ := h
  have : ∀ l : List Gt, (∀ g ∈ l, g.ps.length ≤ 4) → (l.flatMap Gt.ps).length ≤ 4 * l.length := by
    intro l
    induction l with
    | nil => intro _; simp
    | cons g l ih =>
      intro h
      have h1 := ih fun x hx => h x (by simp [hx])
      have h2 := h g (by simp)
      simp only [List.flatMap_cons, List.length_append, List.length_cons]
      omega
  have := this c.gs h5
  omega
def wlen3 (e : En) : Nat := match (e[3]? : Option Sl) with
  | some (Sl.ow _ (Ow.lst l)) => l.length
  | _ => 0
def flen2 (U : List Str) (e : En) : Nat := match (e[2]? : Option Sl) with
  | some (Sl.ow _ (Ow.dic ks _)) => (U.filter fun u => !ks.any fun k => decide (k = (.inr u : Key))).length
  | _ => 0
theorem flen_kn (U f : List Str) : (U.filter fun u => !((kn f).map Prod.fst).any fun k => decide (k = (.inr u : Key))).length = cnt U f := by
  unfold cnt kn
  congr 2
  funext u
  congr 1
  induction f with
  | nil => simp
  | cons a f ih =>
    rw [List.map_cons, List.map_cons, List.any_cons, ih]
    have : decide ((Sum.inr a : Key) = Sum.inr u) = decide (u = a) := decide_eq_decide.mpr ⟨fun h => (Sum.inr.inj h).symm, fun h => by rw [h]⟩
    simp only [this]
    simp
set_option maxHeartbeats 2000000
end
end CC

set_option maxHeartbeats 400000
namespace CC
open PySem PySem.Spec PyProof.Rows L2 Qw
open Evl hiding ea_cons
open Pw (Dt Rp RpL Wk R2d R1d RLd RLn Kq KqL truD flatD fl py pyL rangeD charsD spX2 Xm Xm0 tyD isI isB isS isTp isL rl_isInt rl_isBool rl_isStr rl_isTup rl_isList rl_int rl_max2 rl_min2 rl_len rl_lenT rl_tup rl_tupT rl_lenS rl_all rl_any rn_list rn_listT r2_I0 r2_B0 r2_eqI r2_neI r2_eqS r2_neS r2_eq r2_ne r2_I r2_inS r2_niS r2_in r2_inT r2_ixL r2_ixT r2_ixS r2_addS r2_eqD r2_neD r2_ixM r1_U ixN_at itemD cr_int cr_min2 cr_max2 cr_list cr_tuple cr_len pe_globI pe_globS pe_globR pe_tyname rTupS rInt1 rMin2)
local macro_rules | `(tactic| walk_at "side") => `(tactic| first
  | decide | omega | assumption | (show (0 : Int) < _; omega) | exact (show CDiv _ _ from ⟨by omega, by omega⟩) | exact (show CMul _ _ from Or.inr ⟨by omega, by omega⟩) | exact (show CMul _ _ from Or.inl ⟨by omega, by omega⟩) | exact (show CPow _ _ from ⟨by decide, by decide, by decide⟩))
local macro_rules | `(tactic| walk_at "op") => `(tactic| first
  | exact r2_I0 | exact r2_B0 | exact r2_eqI | exact r2_neI | exact r2_eqS | exact r2_neS
  | exact r2_eq rfl rfl rfl | exact r2_ne rfl rfl rfl
  | (refine' r2_I ?_; walk_at "side") | exact r2_inS | exact r2_niS)
local macro_rules | `(tactic| walk_at "rl") => `(tactic| first
  | exact rl_int | exact rl_max2 | exact rl_min2 | exact rl_len | exact rl_lenT | exact rl_isInt (by first | rfl | assumption) | exact rl_isBool (by first | rfl | assumption) | exact rl_isStr (by first | rfl | assumption) | exact rl_isTup (by first | rfl | assumption) | exact rl_isList (by first | rfl | assumption) | exact rl_tup | exact rl_tupT | (refine' rl_lenS ?_; walk_at "side"))
local macro_rules | `(tactic| walk_at "ap") => `(tactic| first
  | exact ap_nil
  | (refine' ap_cons ?eah ?eat; (case eah => walk_at "ep"); (case eat => walk_at "ap")))
local macro_rules | `(tactic| walk_at "ep") => `(tactic| first
  | exact ep_int | exact ep_bl | exact ep_str | exact ep_non | exact ep_ty | exact ep_var
  | (refine' ep_op ?eva ?evb ?evc; (case eva => walk_at "ep"); (case evb => walk_at "ep"); (case evc => walk_at "op"))
  | (refine' ep_cb ?evd ?eve; (case evd => walk_at "ap"); (case eve => walk_at "rl"))
  | (refine' ep_un ?evf r1_U; (case evf => walk_at "ep"))
  | (refine' ep_tup ?evg ?evi; (case evg => walk_at "ap"); (case evi => exact Nat.le_of_ble_eq_true rfl))
  | (refine' ep_lst ?evh ?evj; (case evh => walk_at "ap"); (case evj => exact Nat.le_of_ble_eq_true rfl))
  | assumption)
local macro_rules | `(tactic| walk_at "ee") => `(tactic| (refine' ee_p ?eep; (case eep => walk_at "ep")))
local macro_rules | `(tactic| walk_at "te") => `(tactic| (refine' te_p ?tep; (case tep => walk_at "tp")))
local macro_rules | `(tactic| walk_at "tp") => `(tactic| first
  | (refine' tp_test ?tea; (case tea => walk_at "ep"))
  | (refine' tp_B ?teb; (case teb => walk_at "ep"))
  | (refine' tp_not ?tec; (case tec => walk_at "tp"))
  | (refine' tp_or ?ted ?tee; (case ted => walk_at "tp"); (case tee => intro _; walk_at "tp"))
  | (refine' tp_and ?tef ?teg; (case tef => walk_at "tp"); (case teg => intro _; walk_at "tp"))
  | assumption)
section
variable {P : Program} {w : World} {K : PySem.W.Frag} {mg : Str → Option Value} {base : Heap}

/-! ### the law's own helpers: cell, rich, gate -/
def cellI (xs : List Int) (k : Nat) : Int := xs.getD k 0
def R_law_cell (ds : List Dt) (r : Rs) : Prop := ∃ (xs : List Int) (k : Nat), ds = [.lst (xs.map .int), .int k] ∧ r = .d (.int (cellI xs k))
theorem l_law_cell (ds : List Dt) (r : Rs) (h : R_law_cell ds r) : ds.length = 2 := by
  obtain ⟨_, _, rfl, _⟩ := h
  rfl
abbrev s_law_cell : Stmt := top 25
abbrev N_law_cell : List Str := ["script", "k"]
theorem sc_law_cell : FnScope N_law_cell ["script", "k"] (defScope s_law_cell) := ⟨rfl, rfl, rfl, by decide +kernel, rfl, by decide +kernel, by decide +kernel⟩
theorem k_law_cell (T : Txt K mg) (D : Dx K mg "_law_cell" ["script", "k"] s_law_cell)  : Fx P w K mg base 1 "_law_cell" ["script", "k"] (spR P w K R_law_cell) := by
  refine Fx.of D sc_law_cell (l_law_cell) fun f cdv A outer s H E hr => ?_
  refine ⟨_, (pss_cons (ps_if (pt_cmpR op_lt (pv 1) (pe_callB cr_len (by rfl) T.f_len PySem.boot_len (pa_cons (pv 0) pa_nil)) (nomark _)) (pss_one (ps_ret (pe_callTy cr_int (by rfl) T.f_int (by decide +kernel) (pa_cons (pe_ix ix_list (pv 0) (pv 1) (fun _ _ => rfl)) pa_nil)))) pss_nil)
      (pss_one (ps_ret pe_int))), ?_⟩
  rintro ds r ⟨xs, k, rfl, rfl⟩
  left
  show Se P w K _ [.d (.lst (xs.map .int)), .d (.int k)] _
  refine se_when (b := decide ((k : Int) < ((xs.map Dt.int).length : Int))) (te_p (by walk_at "tp")) (fun hb => ?_) (fun hb => ?_)
  · have hb := of_decide_eq_true hb
    have hb : k < xs.length := by rw [List.length_map] at hb; omega
    refine se_seqF (se_ret (ee_p (ep_cb (ap_cons (ep_op ep_var ep_var (r2_ixL (z := .int (cellI xs k)) (ixN_at (by omega) (by rw [List.length_map]; omega)) ?_)) ap_nil) rl_int)))
    rw [Int.toNat_natCast, List.getElem?_map, itemD 0 hb]
    rfl
  · have hb := of_decide_eq_false hb
    have e : cellI xs k = 0 := by
      unfold cellI
      rw [List.getD_eq_getElem?_getD, List.getElem?_eq_none (by rw [List.length_map] at hb; omega)]
      rfl
    rw [e]
    exact se_ret (ee_p ep_int)
end
section
variable {P : Program} {w : World} {K : PySem.W.Frag} {mg : Str → Option Value} {base : Heap}
def rich (c k : Int) : Int := if (10 : Int) ^ (18 : Int).toNat ≤ c then c else ((c * 48271 + k * 69621 + 11) % 2147483647) * 2147483629 + (((c * 48271 + k * 69621 + 11) % 2147483647) * 16807 + c) % 2147483629
theorem rich_nonneg (c k : Int) : 0 ≤ rich c k := by
  unfold rich
  split
  · rename_i h
    have : (0 : Int) ≤ (10 : Int) ^ (18 : Int).toNat := by decide
    omega
  · omega
def R_law_rich (ds : List Dt) (r : Rs) : Prop := ∃ c k : Int, ds = [.int c, .int k] ∧ r = .d (.int (rich c k))
theorem l_law_rich (ds : List Dt) (r : Rs) (h : R_law_rich ds r) : ds.length = 2 := by
  obtain ⟨_, _, rfl, _⟩ := h
  rfl
abbrev s_law_rich : Stmt := top 26
abbrev N_law_rich : List Str := ["cell", "k", "mixed"]
theorem sc_law_rich : FnScope N_law_rich ["cell", "k"] (defScope s_law_rich) := ⟨rfl, rfl, rfl, by decide +kernel, rfl, by decide +kernel, by decide +kernel⟩
theorem k_law_rich (T : Txt K mg) (D : Dx K mg "_law_rich" ["cell", "k"] s_law_rich)  : Fx P w K mg base 1 "_law_rich" ["cell", "k"] (spR P w K R_law_rich) := by
  refine Fx.of D sc_law_rich (l_law_rich) fun f cdv A outer s H E hr => ?_
  refine ⟨_, (pss_cons (ps_if (pt_cmpR op_ge (pv 0) (pe_op op_pow pe_int pe_int) (nomark _)) (pss_one (ps_ret (pe_callTy cr_int (by rfl) T.f_int (by decide +kernel) (pa_cons (pv 0) pa_nil)))) pss_nil)
      (pss_cons (pset (i := 2) sc_law_rich.nd (pe_op op_mod (pe_callTy cr_int (by rfl) T.f_int (by decide +kernel) (pa_cons (pe_op op_add (pe_op op_add (pe_op op_mul (pv 0) pe_int) (pe_op op_mul (pv 1) pe_int)) pe_int) pa_nil)) pe_int))
      (pss_one (ps_ret (pe_op op_add (pe_op op_mul (pv 2) pe_int) (pe_op op_mod (pe_callTy cr_int (by rfl) T.f_int (by decide +kernel) (pa_cons (pe_op op_add (pe_op op_mul (pv 2) pe_int) (pv 0)) pa_nil)) pe_int)))))), ?_⟩
  rintro ds r ⟨c, k, rfl, rfl⟩
  left
  show Se P w K _ [.d (.int c), .d (.int k), .u] _
  refine se_when (b := decide ((10 : Int) ^ (18 : Int).toNat ≤ c)) (te_p (tp_test (ep_op ep_var (by walk_at "ep") r2_B0))) (fun hb => ?_) (fun hb => ?_)
  · refine se_seqF (se_ret (ee_p (ep_is (by walk_at "ep") ?_)))
    unfold rich
    rw [if_pos (of_decide_eq_true hb)]
  · refine se_seq (se_asg (ee_p (by walk_at "ep"))) ?_
    refine se_ret (ee_p (ep_is (by walk_at "ep") ?_))
    unfold rich
    rw [if_neg (of_decide_eq_false hb)]
end
section
variable {P : Program} {w : World} {K : PySem.W.Frag} {mg : Str → Option Value} {base : Heap}
def K13 : List Str := ["and", "or", "nand", "nor", "xor", "xnor", "not", "buf", "and", "or", "nand", "low", "high"]
def kindL (c : Int) : Str := K13.getD (c % 13).toNat ""
def cntL (c : Int) : Nat := if kindL c ∈ (["not", "buf"] : List Str) then 1 else ([2, 2, 3, 1, 2, 4] : List Nat).getD (c / 13 % 6).toNat 0
def pick (known : List Str) (r : Int) : Str := known.getD (r % (known.length : Int)).toNat ""
def pinI (known : List Str) (c : Int) (i : Nat) : Str := pick known (c / (78 + 31 * (i : Int)))
def gateL (c : Int) (known : List Str) (name : Str) : Gt := if kindL c ∈ (["low", "high"] : List Str) then ⟨name, kindL c, []⟩ else ⟨name, kindL c, (List.range (cntL c)).map (pinI known c)⟩
theorem pick_at {known : List Str} (h : known ≠ []) (r : Int) : ixN (known.map Dt.str).length (r % ((known.map Dt.str).length : Int)) = some (r % (known.length : Int)).toNat ∧ (known.map Dt.str)[(r % (known.length : Int)).toNat]? = some (.str (pick known r)) := by
  have hl : 0 < known.length := List.length_pos_iff.mpr h
  have h1 := Int.emod_nonneg r (show (known.length : Int) ≠ 0 by omega)
  have h2 := Int.emod_lt_of_pos r (show (0 : Int) < known.length by omega)
  refine ⟨?_, ?_⟩
  · rw [List.length_map]
    exact ixN_at h1 h2
  · rw [List.getElem?_map, itemD (l := known) "" (by omega)]
    rfl
theorem lit_at {d : Dt} (l : List Dt) (r : Int) (n : Nat) (hn : l.length = n + 1) (e : l.getD (r % ((n : Int) + 1)).toNat d = z) : ixN l.length (r % ((n : Int) + 1)) = some (r % ((n : Int) + 1)).toNat ∧ l[(r % ((n : Int) + 1)).toNat]? = some z := by
  have h1 := Int.emod_nonneg r (show (n : Int) + 1 ≠ 0 by omega)
  have h2 := Int.emod_lt_of_pos r (show (0 : Int) < (n : Int) + 1 by omega)
  refine ⟨ixN_at h1 (by rw [hn]; omega), ?_⟩
  rw [itemD d (by omega), e]
theorem getD_mapf {α : Type} (f : α → Dt) (l : List α) (n : Nat) (a : α) : (l.map f).getD n (f a) = f (l.getD n a) := by
  rw [List.getD_eq_getElem?_getD, List.getD_eq_getElem?_getD, List.getElem?_map]
  cases l[n]? <;> rfl
theorem getD_map_str (l : List Str) (n : Nat) : (l.map Dt.str).getD n (.str "") = .str (l.getD n "") := by
  rw [List.getD_eq_getElem?_getD, List.getD_eq_getElem?_getD, List.getElem?_map]
  cases l[n]? <;> rfl
theorem in_strs (k : Str) (xs : List Str) : R2d K (rIn K false) (.str k) (.lst (xs.map .str)) (.bl (decide (k ∈ xs))) := by
  have h := r2_in (K := K) (neg := false) (d := .str k) (ds := xs.map Dt.str) rfl (flat_strsD xs) rfl (flat_strsV xs)
  rw [fl_strs] at h
  have e : inV (Pw.fl (.str k)) (xs.map V.str) = decide (k ∈ xs) := inV_strs k xs
  rw [e] at h
  exact h
theorem notin_strs (k : Str) (xs : List Str) : R2d K (rIn K true) (.str k) (.lst (xs.map .str)) (.bl (!decide (k ∈ xs))) := by
  have h := r2_in (K := K) (neg := true) (d := .str k) (ds := xs.map Dt.str) rfl (flat_strsD xs) rfl (flat_strsV xs)
  rw [fl_strs] at h
  have e : inV (Pw.fl (.str k)) (xs.map V.str) = decide (k ∈ xs) := inV_strs k xs
  rw [e] at h
  exact h
def R_law_gate (ds : List Dt) (r : Rs) : Prop := ∃ (c : Int) (known : List Str) (name : Str), ds = [.int c, .lst (known.map .str), .str name] ∧ 0 ≤ c ∧ known ≠ [] ∧ known.length ≤ 1000 ∧ r = .d (gateL c known name).d
theorem l_law_gate (ds : List Dt) (r : Rs) (h : R_law_gate ds r) : ds.length = 3 := by
  obtain ⟨_, _, _, rfl, _⟩ := h
  rfl
theorem cntL_le (c : Int) : cntL c ≤ 4 := by
  unfold cntL
  split
  · omega
  · have : ∀ n : Nat, ([2, 2, 3, 1, 2, 4] : List Nat).getD n 0 ≤ 4 := by
      intro n
      match n with
      | 0 => decide
      | 1 => decide
      | 2 => decide
      | 3 => decide
      | 4 => decide
      | 5 => decide
      | n + 6 => exact Nat.zero_le _
    exact this _
abbrev s_law_gate : Stmt := top 27
abbrev N_law_gate : List Str := ["rich", "known", "name", "kind", "count", "pins", "k"]
theorem sc_law_gate : FnScope N_law_gate ["rich", "known", "name"] (defScope s_law_gate) := ⟨rfl, rfl, rfl, by decide +kernel, rfl, by decide +kernel, by decide +kernel⟩
theorem k_law_gate (T : Txt K mg) (D : Dx K mg "_law_gate" ["rich", "known", "name"] s_law_gate)  : Fx P w K mg base 1 "_law_gate" ["rich", "known", "name"] (spR P w K R_law_gate) := by
  refine Fx.of D sc_law_gate (l_law_gate) fun f cdv A outer s H E hr => ?_
  refine ⟨_, (pss_cons (pset (i := 3) sc_law_gate.nd (pe_ix ix_list (pe_lst (pa_cons pe_str (pa_cons pe_str (pa_cons pe_str (pa_cons pe_str (pa_cons pe_str (pa_cons pe_str (pa_cons pe_str (pa_cons pe_str (pa_cons pe_str (pa_cons pe_str (pa_cons pe_str (pa_cons pe_str (pa_cons pe_str pa_nil)))))))))))))) (pe_op op_mod (pv 0) pe_int) (fun _ _ => rfl)))
      (pss_cons (ps_if (pt_cmpR op_in_seq (pv 3) (pe_lst (pa_cons pe_str (pa_cons pe_str pa_nil))) rfl) (pss_one (ps_ret (pe_tup (pa_cons (pv 2) (pa_cons (pv 3) (pa_cons (pe_tup pa_nil) pa_nil)))))) pss_nil)
      (pss_cons (pset (i := 4) sc_law_gate.nd (pe_ifExp (pt_cmpR op_in_seq (pv 3) (pe_lst (pa_cons pe_str (pa_cons pe_str pa_nil))) rfl) pe_int (pe_ix ix_list (pe_lst (pa_cons pe_int (pa_cons pe_int (pa_cons pe_int (pa_cons pe_int (pa_cons pe_int (pa_cons pe_int pa_nil))))))) (pe_op op_mod (pe_op op_fdiv (pv 0) pe_int) pe_int) (fun _ _ => rfl))))
      (pss_cons (pset (i := 5) sc_law_gate.nd (pe_lst pa_nil))
      (pss_cons (ps_for PassesOwn.never rfl (pi_range1 rfl T.f_range (pa_cons (pv 4) pa_nil)) (pgn (i := 6) sc_law_gate.nd)
      (pss_one (ps_expr (pe_bm PySem.F.plainAttrs_list PySem.F.slot_list_append PySem.F.type_list_append mt_append (pv 5) (pa_cons (pe_ix ix_list (pv 1) (pe_op op_mod (pe_op op_fdiv (pv 0) (pe_op op_add pe_int (pe_op op_mul pe_int (pv 6)))) (pe_callB cr_len (by rfl) T.f_len PySem.boot_len (pa_cons (pv 1) pa_nil))) (fun _ _ => rfl)) pa_nil)))))
      (pss_one (ps_ret (pe_tup (pa_cons (pv 2) (pa_cons (pv 3) (pa_cons (pe_callTy cr_tuple (by rfl) T.f_tuple (by decide +kernel) (pa_cons (pv 5) pa_nil)) pa_nil))))))))))), ?_⟩
  rintro ds r ⟨c, known, name, rfl, hc, hk, hz, rfl⟩
  left
  show Se P w K _ [.d (.int c), .d (.lst (known.map .str)), .d (.str name), .u, .u, .u, .u] _
  obtain ⟨k1, k2⟩ := lit_at (d := .str "") (z := .str (kindL c)) (K13.map Dt.str) c 12 rfl (getD_map_str K13 _)
  refine se_seq (se_asg (d := .str (kindL c)) (ee_p (ep_op (d := .lst (K13.map Dt.str)) (by walk_at "ep") (by walk_at "ep") (r2_ixL k1 k2)))) ?_
  refine se_when (b := decide (kindL c ∈ (["low", "high"] : List Str))) (te_p (tp_test (ep_op ep_var (by walk_at "ep") (in_strs (kindL c) ["low", "high"])))) (fun hb => ?_) (fun hb => ?_)
  · refine se_seqF (se_ret (ee_p (ep_is (by walk_at "ep") ?_)))
    unfold gateL
    rw [if_pos (of_decide_eq_true hb)]
    rfl
  · have hb := of_decide_eq_false hb
    have hg : gateL c known name = ⟨name, kindL c, (List.range (cntL c)).map (pinI known c)⟩ := if_neg hb
    rw [hg]
    refine se_seq (se_asg (d := .int (cntL c)) (ee_p (ep_if (b := decide (kindL c ∈ (["not", "buf"] : List Str))) (tp_test (ep_op ep_var (by walk_at "ep") (in_strs (kindL c) ["not", "buf"]))) (fun h => ep_is ep_int ?_) (fun h => ?_)))) ?_
    · unfold cntL
      rw [if_pos (of_decide_eq_true h)]
      rfl
    · have e : cntL c = ([2, 2, 3, 1, 2, 4] : List Nat).getD (c / 13 % 6).toNat 0 := if_neg (of_decide_eq_false h)
      obtain ⟨j1, j2⟩ := lit_at (d := .int ((0 : Nat) : Int)) (z := .int (cntL c)) (([2, 2, 3, 1, 2, 4] : List Nat).map fun n : Nat => Dt.int (n : Int)) (c / 13) 5 rfl (by
        rw [e]
        exact getD_mapf (fun n : Nat => Dt.int (n : Int)) [2, 2, 3, 1, 2, 4] _ 0)
      exact ep_op (d := .lst (([2, 2, 3, 1, 2, 4] : List Nat).map fun n : Nat => Dt.int (n : Int))) (by walk_at "ep") (by walk_at "ep") (r2_ixL j1 j2)
    refine se_seq (se_own (en_p (np_lst ap_nil))) ?_
    let En1 : List Str → En := fun ps => [.d (.int c), .d (.lst (known.map .str)), .d (.str name), .d (.str (kindL c)), .d (.int (cntL c)), .ow none (.lst (ps.map .str)), .x]
    refine se_seq (env1 := En1 ((List.range (cntL c)).map (pinI known c))) (se_is (se_rng (cntL c) (ap_cons ep_var ap_nil) (by have := cntL_le c; omega) En1 (fun s i => s ++ [pinI known c i]) (fun s i => s.length = i) [] (Le.s (Le.s (Le.s (Le.s (Le.s (Le.s (Le.x Le.nil))))))) rfl ?_) ?_) ?_
    · intro s i hi hs
      refine ⟨by simp [hs], _, ge_name, ?_⟩
      have hcl := cntL_le c
      obtain ⟨p1, p2⟩ := pick_at hk (c / (78 + 31 * (i : Int)))
      refine se_nc (se_le (se_is (se_app (xs := s.map Dt.str) (d := .str (pinI known c i)) rfl (ee_p (ep_op ep_var (ep_op (ep_op ep_var (by walk_at "ep") (r2_I (show CDiv _ _ from ⟨?_, ?_⟩))) (ep_cb (ap_cons ep_var ap_nil) rl_len) (r2_I ?_)) (r2_ixL p1 p2))) rfl (by rw [List.length_map]; omega)) rfl) ?_)
      · omega
      · omega
      · have hl : 0 < known.length := List.length_pos_iff.mpr hk
        show (0 : Int) < ((known.map Dt.str).length : Int)
        rw [List.length_map]
        omega
      · have e : s.map Dt.str ++ [Dt.str (pinI known c i)] = (s ++ [pinI known c i]).map Dt.str := by simp
        rw [e]
        exact Le.s (Le.s (Le.s (Le.s (Le.s (Le.s (Le.x Le.nil))))))
    · have key : ∀ (l : List Nat) (s : List Str), l.foldl (fun s i => s ++ [pinI known c i]) s = s ++ l.map (pinI known c) := by
        intro l
        induction l with
        | nil => simp
        | cons a l ih => intro s; rw [List.foldl_cons, ih]; simp
      rw [key]
      rfl
    · refine se_freeze (i := 5) (t' := none) rfl rfl ?_
      exact se_ret (ee_p (ep_is (by walk_at "ep") rfl))
end
end CC

set_option maxHeartbeats 400000
namespace CC
open PySem PySem.Spec PyProof.Rows L2 Qw
open Evl hiding ea_cons
open Pw (Dt Rp RpL Wk R2d R1d RLd RLn Kq KqL truD flatD fl py pyL rangeD charsD spX2 Xm Xm0 tyD isI isB isS isTp isL rl_isInt rl_isBool rl_isStr rl_isTup rl_isList rl_int rl_max2 rl_min2 rl_len rl_lenT rl_tup rl_tupT rl_lenS rl_all rl_any rn_list rn_listT r2_I0 r2_B0 r2_eqI r2_neI r2_eqS r2_neS r2_eq r2_ne r2_I r2_inS r2_niS r2_in r2_inT r2_ixL r2_ixT r2_ixS r2_addS r2_eqD r2_neD r2_ixM r1_U ixN_at itemD cr_int cr_min2 cr_max2 cr_list cr_tuple cr_len pe_globI pe_globS pe_globR pe_tyname rTupS rInt1 rMin2)
local macro_rules | `(tactic| walk_at "side") => `(tactic| first
  | decide | omega | assumption | (show (0 : Int) < _; omega) | exact (show CDiv _ _ from ⟨by omega, by omega⟩) | exact (show CMul _ _ from Or.inr ⟨by omega, by omega⟩) | exact (show CMul _ _ from Or.inl ⟨by omega, by omega⟩) | exact (show CPow _ _ from ⟨by decide, by decide, by decide⟩))
local macro_rules | `(tactic| walk_at "op") => `(tactic| first
  | exact r2_I0 | exact r2_B0 | exact r2_eqI | exact r2_neI | exact r2_eqS | exact r2_neS
  | exact r2_eq rfl rfl rfl | exact r2_ne rfl rfl rfl
  | (refine' r2_I ?_; walk_at "side") | exact r2_inS | exact r2_niS)
local macro_rules | `(tactic| walk_at "rl") => `(tactic| first
  | exact rl_int | exact rl_max2 | exact rl_min2 | exact rl_len | exact rl_lenT | exact rl_isInt (by first | rfl | assumption) | exact rl_isBool (by first | rfl | assumption) | exact rl_isStr (by first | rfl | assumption) | exact rl_isTup (by first | rfl | assumption) | exact rl_isList (by first | rfl | assumption) | exact rl_tup | exact rl_tupT | (refine' rl_lenS ?_; walk_at "side"))
local macro_rules | `(tactic| walk_at "ap") => `(tactic| first
  | exact ap_nil
  | (refine' ap_cons ?eah ?eat; (case eah => walk_at "ep"); (case eat => walk_at "ap")))
local macro_rules | `(tactic| walk_at "ep") => `(tactic| first
  | exact ep_int | exact ep_bl | exact ep_str | exact ep_non | exact ep_ty | exact ep_var
  | (refine' ep_op ?eva ?evb ?evc; (case eva => walk_at "ep"); (case evb => walk_at "ep"); (case evc => walk_at "op"))
  | (refine' ep_cb ?evd ?eve; (case evd => walk_at "ap"); (case eve => walk_at "rl"))
  | (refine' ep_un ?evf r1_U; (case evf => walk_at "ep"))
  | (refine' ep_tup ?evg ?evi; (case evg => walk_at "ap"); (case evi => exact Nat.le_of_ble_eq_true rfl))
  | (refine' ep_lst ?evh ?evj; (case evh => walk_at "ap"); (case evj => exact Nat.le_of_ble_eq_true rfl))
  | assumption)
local macro_rules | `(tactic| walk_at "ee") => `(tactic| (refine' ee_p ?eep; (case eep => walk_at "ep")))
local macro_rules | `(tactic| walk_at "te") => `(tactic| (refine' te_p ?tep; (case tep => walk_at "tp")))
local macro_rules | `(tactic| walk_at "tp") => `(tactic| first
  | (refine' tp_test ?tea; (case tea => walk_at "ep"))
  | (refine' tp_B ?teb; (case teb => walk_at "ep"))
  | (refine' tp_not ?tec; (case tec => walk_at "tp"))
  | (refine' tp_or ?ted ?tee; (case ted => walk_at "tp"); (case tee => intro _; walk_at "tp"))
  | (refine' tp_and ?tef ?teg; (case tef => walk_at "tp"); (case teg => intro _; walk_at "tp"))
  | assumption)
section
variable {P : Program} {w : World} {K : PySem.W.Frag} {mg : Str → Option Value} {base : Heap}

/-! ### the law's own parts of a circuit -/
def gn (k : Nat) : Str := ("g" : Str) ++ (toString (k : Int) : Str)
def pStep (xs : List Int) (s : List Gt × List Str) (k : Nat) : List Gt × List Str := (s.1 ++ [gateL (rich (cellI xs (1 + k)) k) s.2 (gn k)], s.2 ++ [gn k])
def inL (xs : List Int) (most : Nat) : List Str := (["a", "b", "c", "d"] : List Str).take (1 + cellI xs 0 % (most : Int)).toNat
def qL (xs : List Int) : List Str := (["q0", "q1"] : List Str).take (cellI xs 0 / 4 % 3).toNat
def nG (xs : List Int) : Nat := (1 + cellI xs 0 / 12 % 7).toNat
def gkL (xs : List Int) (most : Nat) : List Gt × List Str := (List.range (nG xs)).foldl (pStep xs) ([], inL xs most ++ qL xs)
def r8 (xs : List Int) : Int := rich (cellI xs 8) 8
def regL (xs : List Int) (most : Nat) (k : Nat) : RegT := ((qL xs).getD k "", pick (gkL xs most).2 (r8 xs / (3 + (k : Int))))
def mn4 (n : Int) : Int := if n < 4 then n else 4
def outL (xs : List Int) (known : List Str) (k : Nat) : Str := known.getD ((known.length : Int) - 1 - r8 xs / (7 + (k : Int)) % mn4 known.length).toNat ""
def partsL (xs : List Int) (most : Nat) : Cp :=
  ⟨inL xs most, (List.range (qL xs).length).map (regL xs most), if cellI xs 0 / 84 % 2 = 1 then (gkL xs most).1.reverse else (gkL xs most).1, (List.range (1 + r8 xs % 3).toNat).map (outL xs (gkL xs most).2)⟩
def partsD (c : Cp) : Dt := .tup [.lst (c.is.map .str), .lst (c.rs.map regD), .lst (c.gs.map Gt.d), .lst (c.os.map .str)]
theorem cut_take (xs : List Dt) (k : Nat) (h : k ≤ xs.length) : (xs.drop (HT.sIx xs.length 0 none)).take (HT.sIx xs.length xs.length (some (k : Int)) - HT.sIx xs.length 0 none) = xs.take k := by
  rw [HT.sIx_none, HT.sIx_nat, Nat.min_eq_left h]
  rfl
theorem gn_len : ∀ k : Nat, k < 7 → (toString (k : Int) : Str).length ≤ 100 := by
  intro k hk
  match k, hk with
  | 0, _ => decide +kernel
  | 1, _ => decide +kernel
  | 2, _ => decide +kernel
  | 3, _ => decide +kernel
  | 4, _ => decide +kernel
  | 5, _ => decide +kernel
  | 6, _ => decide +kernel
  | k + 7, h => omega
theorem gk_len (xs : List Int) : ∀ (l : List Nat) (s : List Gt × List Str), (l.foldl (pStep xs) s).1.length = s.1.length + l.length ∧ (l.foldl (pStep xs) s).2.length = s.2.length + l.length
  | [], s => ⟨rfl, rfl⟩
  | k :: l, s => by
    rw [List.foldl_cons]
    obtain ⟨h1, h2⟩ := gk_len xs l (pStep xs s k)
    rw [h1, h2]
    simp [pStep]
    omega
theorem in_pos (xs : List Int) (most : Nat) (h1 : 1 ≤ most) (h2 : most ≤ 4) : 1 ≤ (inL xs most).length ∧ (inL xs most).length ≤ 4 := by
  have a := Int.emod_nonneg (cellI xs 0) (show (most : Int) ≠ 0 by omega)
  have b := Int.emod_lt_of_pos (cellI xs 0) (show (0 : Int) < (most : Int) by omega)
  unfold inL
  rw [List.length_take]
  show 1 ≤ min _ 4 ∧ min _ 4 ≤ 4
  omega
theorem q_le (xs : List Int) : (qL xs).length ≤ 2 := by
  unfold qL
  rw [List.length_take]
  show min _ 2 ≤ 2
  omega
theorem nG_le (xs : List Int) : 1 ≤ nG xs ∧ nG xs ≤ 7 := by
  unfold nG
  omega
def R_law_parts (ds : List Dt) (r : Rs) : Prop := ∃ (xs : List Int) (most : Nat), ds = [.lst (xs.map .int), .int (most : Int)] ∧ 1 ≤ most ∧ most ≤ 4 ∧ r = .d (partsD (partsL xs most))
theorem l_law_parts (ds : List Dt) (r : Rs) (h : R_law_parts ds r) : ds.length = 2 := by
  obtain ⟨_, _, rfl, _⟩ := h
  rfl
abbrev s_law_parts : Stmt := top 28
abbrev N_law_parts : List Str := ["script", "most", "cell", "inputs", "names", "known", "gates", "k", "rich", "registers", "outputs"]
theorem sc_law_parts : FnScope N_law_parts ["script", "most"] (defScope s_law_parts) := ⟨rfl, rfl, rfl, by decide +kernel, rfl, by decide +kernel, by decide +kernel⟩
theorem k_law_parts (T : Txt K mg) (D : Dx K mg "_law_parts" ["script", "most"] s_law_parts)  (G__law_cell : Fx P w K mg base 1 "_law_cell" ["script", "k"] (spR P w K R_law_cell)) (G__law_gate : Fx P w K mg base 1 "_law_gate" ["rich", "known", "name"] (spR P w K R_law_gate)) (G__law_rich : Fx P w K mg base 1 "_law_rich" ["cell", "k"] (spR P w K R_law_rich)) : Fx P w K mg base 2 "_law_parts" ["script", "most"] (spR P w K R_law_parts) := by
  refine Fx.of D sc_law_parts (l_law_parts) fun f cdv A outer s H E hr => ?_
  refine ⟨_, (pss_cons (pset (i := 2) sc_law_parts.nd (pe_fx G__law_cell (hr.mono (by decide)) (pa_cons (pv 0) (pa_cons pe_int pa_nil))))
      (pss_cons (pset (i := 3) sc_law_parts.nd (pe_slice sl_list (pe_lst (pa_cons pe_str (pa_cons pe_str (pa_cons pe_str (pa_cons pe_str pa_nil))))) po_none (po_some (pe_op op_add pe_int (pe_op op_mod (pv 2) (pv 1))))))
      (pss_cons (pset (i := 4) sc_law_parts.nd (pe_slice sl_list (pe_lst (pa_cons pe_str (pa_cons pe_str pa_nil))) po_none (po_some (pe_op op_mod (pe_op op_fdiv (pv 2) pe_int) pe_int))))
      (pss_cons (pset (i := 5) sc_law_parts.nd (pe_op op_catS (pv 3) (pv 4)))
      (pss_cons (pset (i := 6) sc_law_parts.nd (pe_lst pa_nil))
      (pss_cons (ps_for PassesOwn.never rfl (pi_range1 rfl T.f_range (pa_cons (pe_op op_add pe_int (pe_op op_mod (pe_op op_fdiv (pv 2) pe_int) pe_int)) pa_nil)) (pgn (i := 7) sc_law_parts.nd)
      (pss_cons (ps_expr (pe_bm PySem.F.plainAttrs_list PySem.F.slot_list_append PySem.F.type_list_append mt_append (pv 6) (pa_cons (pe_fx G__law_gate (hr.mono (by decide)) (pa_cons (pe_fx G__law_rich (hr.mono (by decide)) (pa_cons (pe_fx G__law_cell (hr.mono (by decide)) (pa_cons (pv 0) (pa_cons (pe_op op_add pe_int (pv 7)) pa_nil))) (pa_cons (pv 7) pa_nil))) (pa_cons (pv 5) (pa_cons (pe_op op_add_str pe_str (pe_callTy call_str_int (by rfl) T.f_str (by decide +kernel) (pa_cons (pv 7) pa_nil))) pa_nil)))) pa_nil)))
      (pss_one (pset (i := 5) sc_law_parts.nd (pe_op op_catS (pv 5) (pe_lst (pa_cons (pe_op op_add_str pe_str (pe_callTy call_str_int (by rfl) T.f_str (by decide +kernel) (pa_cons (pv 7) pa_nil))) pa_nil)))))))
      (pss_cons (pset (i := 8) sc_law_parts.nd (pe_fx G__law_rich (hr.mono (by decide)) (pa_cons (pe_fx G__law_cell (hr.mono (by decide)) (pa_cons (pv 0) (pa_cons pe_int pa_nil))) (pa_cons pe_int pa_nil))))
      (pss_cons (ps_setLc (i := 9) (own := [("k", 7)]) (g := gName 7) (tt := tYes) rfl sc_law_parts.nd rfl rfl (sw_true rfl rfl rfl (by decide +kernel)) (pi_range1 rfl T.f_range (pa_cons (pe_callB cr_len (by rfl) T.f_len PySem.boot_len (pa_cons (pv 4) pa_nil)) pa_nil)) (blkOk_by (N := N_law_parts) (sc := defScope s_law_parts) (by decide +kernel)) (fun _ _ _ _ _ => (pgn (i := 7) sc_law_parts.nd)) (fun _ _ _ _ _ => pts_nil) (fun _ _ _ _ _ => (pe_tup (pa_cons (pe_ix (show IxR _ (rIxL K) from ix_list) (pv 4) (pv 7) (fun _ _ => rfl)) (pa_cons (pe_ix (show IxR _ (rIxL K) from ix_list) (pv 5) (pe_op op_mod (pe_op op_fdiv (pv 8) (pe_op op_add pe_int (pv 7))) (pe_callB (show CallR _ _ (rLenS K) from cr_len) (by rfl) T.f_len PySem.boot_len (pa_cons (pv 5) pa_nil))) (fun _ _ => rfl)) pa_nil)))))
      (pss_cons (ps_setLc (i := 10) (own := [("k", 7)]) (g := gName 7) (tt := tYes) rfl sc_law_parts.nd rfl rfl (sw_true rfl rfl rfl (by decide +kernel)) (pi_range1 rfl T.f_range (pa_cons (pe_op op_add pe_int (pe_op op_mod (pv 8) pe_int)) pa_nil)) (blkOk_by (N := N_law_parts) (sc := defScope s_law_parts) (by decide +kernel)) (fun _ _ _ _ _ => (pgn (i := 7) sc_law_parts.nd)) (fun _ _ _ _ _ => pts_nil) (fun _ _ _ _ _ => (pe_ix (show IxR _ (rIxL K) from ix_list) (pv 5) (pe_op op_sub (pe_op op_sub (pe_callB (show CallR _ _ (rLenS K) from cr_len) (by rfl) T.f_len PySem.boot_len (pa_cons (pv 5) pa_nil)) pe_int) (pe_op op_mod (pe_op op_fdiv (pv 8) (pe_op op_add pe_int (pv 7))) (pe_callB (cr_min2 rfl) (by rfl) T.f_min (by decide +kernel) (pa_cons pe_int (pa_cons (pe_callB (show CallR _ _ (rLenS K) from cr_len) (by rfl) T.f_len PySem.boot_len (pa_cons (pv 5) pa_nil)) pa_nil))))) (fun _ _ => rfl))))
      (pss_cons (ps_if (pt_cmpR op_eq (pe_op op_mod (pe_op op_fdiv (pv 2) pe_int) pe_int) pe_int (nomark _)) (pss_one (pset (i := 6) sc_law_parts.nd (pe_revL (pv 6)))) pss_nil)
      (pss_one (ps_ret (pe_tup (pa_cons (pv 3) (pa_cons (pv 9) (pa_cons (pv 6) (pa_cons (pv 10) pa_nil))))))))))))))))), ?_⟩
  rintro ds r ⟨xs, most, rfl, hm1, hm2, rfl⟩
  left
  show Se P w K _ [.d (.lst (xs.map .int)), .d (.int (most : Int)), .u, .u, .u, .u, .u, .u, .u, .u, .u] _
  have m1 := Int.emod_nonneg (cellI xs 0) (show (most : Int) ≠ 0 by omega)
  have m2 := Int.emod_lt_of_pos (cellI xs 0) (show (0 : Int) < (most : Int) by omega)
  refine se_seq (se_asg (d := .int (cellI xs 0)) (ee_p (ep_call (ap_cons ep_var (ap_cons ep_int ap_nil)) ⟨xs, 0, rfl, rfl⟩))) ?_
  refine se_seq (se_asg (d := .lst ((inL xs most).map .str)) (ee_p (ep_is (ep_new (np_slL (xs := (["a", "b", "c", "d"] : List Str).map .str) (hi := some (((1 + cellI xs 0 % (most : Int)).toNat : Nat) : Int)) (lo := none) (by walk_at "ep") qo_none (qo_some (ep_is (by walk_at "ep") (congrArg Dt.int (Int.toNat_of_nonneg (by omega)).symm))))) ?_))) ?_
  · rw [cut_take _ _ (by show _ ≤ 4; omega)]
    unfold inL
    rw [List.map_take]
  refine se_seq (se_asg (d := .lst ((qL xs).map .str)) (ee_p (ep_is (ep_new (np_slL (xs := (["q0", "q1"] : List Str).map .str) (hi := some (((cellI xs 0 / 4 % 3).toNat : Nat) : Int)) (lo := none) (by walk_at "ep") qo_none (qo_some (ep_is (by walk_at "ep") (congrArg Dt.int (Int.toNat_of_nonneg (by omega)).symm))))) ?_))) ?_
  · rw [cut_take _ _ (by show _ ≤ 2; omega)]
    unfold qL
    rw [List.map_take]
  have hin := in_pos xs most hm1 hm2
  have hq := q_le xs
  have hng := nG_le xs
  refine se_seq (se_asg (d := .lst ((inL xs most ++ qL xs).map .str)) (ee_p (ep_is (ep_op ep_var ep_var (r2_cat (by simp; omega))) (by rw [List.map_append])))) ?_
  refine se_seq (se_own (en_p (np_lst ap_nil))) ?_
  let E7 : List Gt × List Str → En := fun s => [.d (.lst (xs.map .int)), .d (.int (most : Int)), .d (.int (cellI xs 0)), .d (.lst ((inL xs most).map .str)), .d (.lst ((qL xs).map .str)), .d (.lst (s.2.map .str)), .ow none (.lst (s.1.map Gt.d)), .x, .x, .x, .x]
  refine se_seq (env1 := E7 (gkL xs most)) (se_rng (nG xs) (ap_cons (ep_is (by walk_at "ep") (congrArg Dt.int (show (1 + cellI xs 0 / 12 % 7 : Int) = (nG xs : Int) by unfold nG; omega))) ap_nil) (by omega) E7 (pStep xs) (fun s k => s.1.length = k ∧ s.2.length = (inL xs most ++ qL xs).length + k) ([], inL xs most ++ qL xs) ?_ ⟨rfl, rfl⟩ ?_) ?_
  · exact Le.s (Le.s (Le.s (Le.s (Le.s (Le.s (Le.s (Le.x (Le.x (Le.x (Le.x Le.nil))))))))))
  · rintro s k hk ⟨h1, h2⟩
    rw [List.length_append] at h2
    refine ⟨⟨by simp [pStep, h1], by simp [pStep, h2]; omega⟩, _, ge_name, ?_⟩
    have hgl := gn_len k (by omega)
    have hg0 : ("g" : Str).length = 1 := by decide +kernel
    have hg1 : ("g" : Str).length + (toString (k : Int) : Str).length ≤ 100000 := by omega
    have hne : s.2 ≠ [] := by
      intro z
      rw [z] at h2
      simp at h2
      omega
    have eg : ∀ {en : En}, en[7]? = some (.d (.int (k : Int))) → Ep P w K (tOp (fun x y H Q => ∃ i j, x = V.str i ∧ y = V.str j ∧ i.length + j.length ≤ sizeLine ∧ Q (.str (i ++ j)) H) (tC (.str "g")) (tCB (fun xs H Q => ∃ j, xs = [V.int j] ∧ j.natAbs.log2 < 1920 ∧ Q (.str (toString j)) H) (tCons (tVar 7) tNil))) en (.str (gn k)) := fun h => ep_op ep_str (ep_cb (ap_cons (ep_var h) ap_nil) (rl_strI (by omega))) (r2_addS hg1)
    refine se_nc (se_le (se_seq (se_app (xs := s.1.map Gt.d) (d := (gateL (rich (cellI xs (1 + k)) k) s.2 (gn k)).d) rfl (ee_p (ep_call (ap_cons (ep_call (ap_cons (ep_call (ap_cons ep_var (ap_cons (ep_is (e := .int ((1 + k : Nat) : Int)) (by walk_at "ep") (by simp)) ap_nil)) ⟨xs, 1 + k, rfl, rfl⟩) (ap_cons ep_var ap_nil)) ⟨_, (k : Int), rfl, rfl⟩) (ap_cons ep_var (ap_cons (eg rfl) ap_nil))) ⟨_, s.2, gn k, rfl, rich_nonneg _ _, hne, by omega, rfl⟩)) rfl (by rw [List.length_map]; omega)) (se_asg (d := .lst ((s.2 ++ [gn k]).map .str)) (ee_p (ep_is (ep_op ep_var (ep_lst (ap_cons (eg rfl) ap_nil)) (r2_cat (by simp; omega))) (by rw [List.map_append]; rfl))))) ?_)
    have e : s.1.map Gt.d ++ [(gateL (rich (cellI xs (1 + k)) k) s.2 (gn k)).d] = (pStep xs s k).1.map Gt.d := by simp [pStep]
    rw [e]
    exact Le.s (Le.s (Le.s (Le.s (Le.s (Le.s (Le.s (Le.x (Le.s (Le.s (Le.s Le.nil))))))))))
  obtain ⟨hl1, hl2⟩ := gk_len xs (List.range (nG xs)) ([], inL xs most ++ qL xs)
  have hl1 : (gkL xs most).1.length = nG xs := by show ((List.range (nG xs)).foldl (pStep xs) ([], inL xs most ++ qL xs)).1.length = _; rw [hl1]; simp
  have hl2 : (gkL xs most).2.length = (inL xs most).length + (qL xs).length + nG xs := by show ((List.range (nG xs)).foldl (pStep xs) ([], inL xs most ++ qL xs)).2.length = _; rw [hl2]; simp
  have hne : (gkL xs most).2 ≠ [] := by
    intro z
    rw [z] at hl2
    simp at hl2
    omega
  have hr8 : 0 ≤ r8 xs := rich_nonneg _ _
  refine se_seq (se_asg (d := .int (r8 xs)) (ee_p (ep_call (ap_cons (ep_call (ap_cons ep_var (ap_cons ep_int ap_nil)) ⟨xs, 8, rfl, rfl⟩) (ap_cons ep_int ap_nil)) ⟨_, 8, rfl, rfl⟩))) ?_
  refine se_seq (se_asg (d := .lst ((partsL xs most).rs.map regD)) (ee_p (ep_is (ep_new (np_rng (n := (qL xs).length) (ap_cons (ep_is (ep_cb (ap_cons ep_var ap_nil) rl_len) (by rw [List.length_map])) ap_nil) (by omega) (fun k => regD (regL xs most k)) fun k hk => ?_)) (by show Dt.lst _ = Dt.lst (((List.range (qL xs).length).map (regL xs most)).map regD); rw [List.map_map]; rfl)))) ?_
  · obtain ⟨p1, p2⟩ := pick_at hne (r8 xs / (3 + (k : Int)))
    refine ep_tup (ap_cons (ep_op ep_var ep_var (r2_ixL (z := .str ((qL xs).getD k "")) (ixN_at (by omega) (by rw [List.length_map]; omega)) (by rw [Int.toNat_natCast, List.getElem?_map, itemD (l := qL xs) "" hk]; rfl))) (ap_cons (ep_op ep_var (ep_op (ep_op ep_var (by walk_at "ep") (r2_I (show CDiv _ _ from ⟨?_, ?_⟩))) (ep_cb (ap_cons ep_var ap_nil) rl_len) (r2_I ?_)) (r2_ixL p1 p2)) ap_nil))
    · omega
    · omega
    · show (0 : Int) < (((gkL xs most).2.map Dt.str).length : Int)
      rw [List.length_map]
      omega
  refine se_seq (se_asg (d := .lst ((partsL xs most).os.map .str)) (ee_p (ep_is (ep_new (np_rng (n := (1 + r8 xs % 3).toNat) (ap_cons (ep_is (by walk_at "ep") (congrArg Dt.int (Int.toNat_of_nonneg (by omega)).symm)) ap_nil) (by omega) (fun k => Dt.str (outL xs (gkL xs most).2 k)) fun k hk => ?_)) (by show Dt.lst _ = Dt.lst (((List.range (1 + r8 xs % 3).toNat).map (outL xs (gkL xs most).2)).map Dt.str); rw [List.map_map]; rfl)))) ?_
  · have hmn : 0 < mn4 (gkL xs most).2.length ∧ mn4 (gkL xs most).2.length ≤ ((gkL xs most).2.length : Int) := by
      unfold mn4
      split <;> omega
    have n1 := Int.emod_nonneg (r8 xs / (7 + (k : Int))) (show mn4 (gkL xs most).2.length ≠ 0 by omega)
    have n2 := Int.emod_lt_of_pos (r8 xs / (7 + (k : Int))) hmn.1
    refine ep_op ep_var (ep_op (ep_op (ep_is (ep_cb (ap_cons ep_var ap_nil) rl_len) (e := .int ((gkL xs most).2.length : Int)) (by rw [List.length_map])) ep_int r2_I0) (ep_op (ep_op ep_var (by walk_at "ep") (r2_I (show CDiv _ _ from ⟨?_, ?_⟩))) (ep_is (ep_cb (ap_cons ep_int (ap_cons (ep_is (ep_cb (ap_cons ep_var ap_nil) rl_len) (e := .int ((gkL xs most).2.length : Int)) (by rw [List.length_map])) ap_nil)) rl_min2) (e := .int (mn4 (gkL xs most).2.length)) rfl) (r2_I ?_)) r2_I0) (r2_ixL (z := .str (outL xs (gkL xs most).2 k)) (ixN_at ?_ ?_) ?_)
    · omega
    · omega
    · exact hmn.1
    · omega
    · rw [List.length_map]
      omega
    · rw [List.getElem?_map, itemD (l := (gkL xs most).2) "" (by omega)]
      rfl
  refine se_freeze (i := 6) (t' := none) (v := .lst ((gkL xs most).1.map Gt.d)) rfl rfl ?_
  refine se_when (b := decide (cellI xs 0 / 84 % 2 = 1)) (te_p (tp_test (ep_op (by walk_at "ep") ep_int r2_eqI))) (fun hb => ?_) (fun hb => ?_)
  · have e : (partsL xs most).gs = (gkL xs most).1.reverse := if_pos (of_decide_eq_true hb)
    refine se_seq (se_asg (d := .lst ((partsL xs most).gs.map Gt.d)) (ee_p (ep_is (ep_revL (ep_var rfl)) (by rw [e, List.map_reverse])))) ?_
    exact se_ret (ee_p (by walk_at "ep"))
  · have e : (partsL xs most).gs = (gkL xs most).1 := if_neg (of_decide_eq_false hb)
    refine se_is (se_ret (ee_p (ep_tup (ap_cons ep_var (ap_cons ep_var (ap_cons ep_var (ap_cons ep_var ap_nil))))))) ?_
    unfold partsD
    rw [e]
    rfl
end
end CC

set_option maxHeartbeats 400000
namespace CC
open PySem PySem.Spec PyProof.Rows L2 Qw
open Evl hiding ea_cons
open Pw (Dt Rp RpL Wk R2d R1d RLd RLn Kq KqL truD flatD fl py pyL rangeD charsD spX2 Xm Xm0 tyD isI isB isS isTp isL rl_isInt rl_isBool rl_isStr rl_isTup rl_isList rl_int rl_max2 rl_min2 rl_len rl_lenT rl_tup rl_tupT rl_lenS rl_all rl_any rn_list rn_listT r2_I0 r2_B0 r2_eqI r2_neI r2_eqS r2_neS r2_eq r2_ne r2_I r2_inS r2_niS r2_in r2_inT r2_ixL r2_ixT r2_ixS r2_addS r2_eqD r2_neD r2_ixM r1_U ixN_at itemD cr_int cr_min2 cr_max2 cr_list cr_tuple cr_len pe_globI pe_globS pe_globR pe_tyname rTupS rInt1 rMin2)
local macro_rules | `(tactic| walk_at "side") => `(tactic| first
  | decide | omega | assumption | (show (0 : Int) < _; omega) | exact (show CDiv _ _ from ⟨by omega, by omega⟩) | exact (show CMul _ _ from Or.inr ⟨by omega, by omega⟩) | exact (show CMul _ _ from Or.inl ⟨by omega, by omega⟩) | exact (show CPow _ _ from ⟨by decide, by decide, by decide⟩))
local macro_rules | `(tactic| walk_at "op") => `(tactic| first
  | exact r2_I0 | exact r2_B0 | exact r2_eqI | exact r2_neI | exact r2_eqS | exact r2_neS
  | exact r2_eq rfl rfl rfl | exact r2_ne rfl rfl rfl
  | (refine' r2_I ?_; walk_at "side") | exact r2_inS | exact r2_niS)
local macro_rules | `(tactic| walk_at "rl") => `(tactic| first
  | exact rl_int | exact rl_max2 | exact rl_min2 | exact rl_len | exact rl_lenT | exact rl_isInt (by first | rfl | assumption) | exact rl_isBool (by first | rfl | assumption) | exact rl_isStr (by first | rfl | assumption) | exact rl_isTup (by first | rfl | assumption) | exact rl_isList (by first | rfl | assumption) | exact rl_tup | exact rl_tupT | (refine' rl_lenS ?_; walk_at "side"))
local macro_rules | `(tactic| walk_at "ap") => `(tactic| first
  | exact ap_nil
  | (refine' ap_cons ?eah ?eat; (case eah => walk_at "ep"); (case eat => walk_at "ap")))
local macro_rules | `(tactic| walk_at "ep") => `(tactic| first
  | exact ep_int | exact ep_bl | exact ep_str | exact ep_non | exact ep_ty | exact ep_var
  | (refine' ep_op ?eva ?evb ?evc; (case eva => walk_at "ep"); (case evb => walk_at "ep"); (case evc => walk_at "op"))
  | (refine' ep_cb ?evd ?eve; (case evd => walk_at "ap"); (case eve => walk_at "rl"))
  | (refine' ep_un ?evf r1_U; (case evf => walk_at "ep"))
  | (refine' ep_tup ?evg ?evi; (case evg => walk_at "ap"); (case evi => exact Nat.le_of_ble_eq_true rfl))
  | (refine' ep_lst ?evh ?evj; (case evh => walk_at "ap"); (case evj => exact Nat.le_of_ble_eq_true rfl))
  | assumption)
local macro_rules | `(tactic| walk_at "ee") => `(tactic| (refine' ee_p ?eep; (case eep => walk_at "ep")))
local macro_rules | `(tactic| walk_at "te") => `(tactic| (refine' te_p ?tep; (case tep => walk_at "tp")))
local macro_rules | `(tactic| walk_at "tp") => `(tactic| first
  | (refine' tp_test ?tea; (case tea => walk_at "ep"))
  | (refine' tp_B ?teb; (case teb => walk_at "ep"))
  | (refine' tp_not ?tec; (case tec => walk_at "tp"))
  | (refine' tp_or ?ted ?tee; (case ted => walk_at "tp"); (case tee => intro _; walk_at "tp"))
  | (refine' tp_and ?tef ?teg; (case tef => walk_at "tp"); (case teg => intro _; walk_at "tp"))
  | assumption)
section
variable {P : Program} {w : World} {K : PySem.W.Frag} {mg : Str → Option Value} {base : Heap}

/-! ### the order exists where the gates can be ranked -/
def Ordd (src : List Str) (fo : List Gt) : Prop := ∀ (pre : List Gt) (g : Gt) (post : List Gt), fo = pre ++ g :: post → ∀ p ∈ g.ps, p ∈ src ∨ p ∈ pre.map Gt.l
structure OI (src : List Str) (gs : List Gt) (k : List Str) (fo ws : List Gt) : Prop where
  perm : (fo ++ ws).Perm gs
  kn : ∀ x, x ∈ k ↔ x ∈ src ∨ x ∈ fo.map Gt.l
  od : Ordd src fo
theorem mem_ins {k : List Str} {a x : Str} : x ∈ ins k a ↔ x ∈ k ∨ x = a := by
  unfold ins
  split
  · rename_i h
    exact ⟨.inl, fun z => z.elim id fun e => e ▸ h⟩
  · simp
theorem ostep_oi {src : List Str} {gs : List Gt} {s : Os} {g : Gt} {rest : List Gt} (h : OI src gs s.kn s.fo (s.le ++ g :: rest)) : OI src gs (ostep s g).kn (ostep s g).fo ((ostep s g).le ++ rest) := by
  unfold ostep
  split
  · rename_i hc
    refine ⟨?_, fun x => ?_, ?_⟩
    · refine List.Perm.trans ?_ h.perm
      show ((s.fo ++ [g]) ++ (s.le ++ rest)).Perm _
      rw [List.append_assoc]
      exact List.Perm.append_left _ (show (g :: (s.le ++ rest)).Perm (s.le ++ g :: rest) from List.perm_middle.symm)
    · show x ∈ ins s.kn g.l ↔ _
      rw [mem_ins, h.kn]
      simp [or_assoc]
    · intro pre g' post e p hp
      rcases List.eq_nil_or_concat post with rfl | ⟨post', z, rfl⟩
      · have e2 := List.append_inj' (show s.fo ++ [g] = pre ++ [g'] from e) rfl
        obtain ⟨rfl, e3⟩ := e2
        cases e3
        have := List.all_eq_true.mp hc p hp
        exact (h.kn p).mp (of_decide_eq_true this)
      · have e2 := List.append_inj' (show s.fo ++ [g] = (pre ++ g' :: post') ++ [z] by rw [List.append_assoc]; rw [List.concat_eq_append] at e; exact e) rfl
        exact h.od pre g' post' e2.1 p hp
  · refine ⟨?_, h.kn, h.od⟩
    show (s.fo ++ ((s.le ++ [g]) ++ rest)).Perm gs
    rw [List.append_assoc]
    exact h.perm
theorem opass_oi {src : List Str} {gs : List Gt} : ∀ (ws : List Gt) (s : Os), OI src gs s.kn s.fo (s.le ++ ws) → OI src gs (ws.foldl ostep s).kn (ws.foldl ostep s).fo (ws.foldl ostep s).le
  | [], s, h => by simpa using h
  | g :: ws, s, h => by
    rw [List.foldl_cons]
    exact opass_oi ws _ (ostep_oi h)
theorem opass_mono : ∀ (ws : List Gt) (s : Os), ∀ x ∈ s.kn, x ∈ (ws.foldl ostep s).kn
  | [], s, x, h => h
  | g :: ws, s, x, h => by
    rw [List.foldl_cons]
    refine opass_mono ws _ x ?_
    unfold ostep
    split
    · exact mem_ins.mpr (.inl h)
    · exact h
theorem opass_less {k : List Str} {fo ws : List Gt} {g : Gt} (hg : g ∈ ws) (hp : ∀ p ∈ g.ps, p ∈ k) : (opass k fo ws).le.length < ws.length := by
  obtain ⟨a, b, rfl⟩ := List.append_of_mem hg
  have h1 := opass_len a ⟨k, fo, []⟩
  have hm := opass_mono a ⟨k, fo, []⟩
  have h2 := opass_len b (ostep (a.foldl ostep ⟨k, fo, []⟩) g)
  have h3 := opass_len (a ++ g :: b) ⟨k, fo, []⟩
  have e : (a ++ g :: b).foldl ostep ⟨k, fo, []⟩ = b.foldl ostep (ostep (a.foldl ostep ⟨k, fo, []⟩) g) := by rw [List.foldl_append, List.foldl_cons]
  have hs : (ostep (a.foldl ostep ⟨k, fo, []⟩) g).fo.length = (a.foldl ostep ⟨k, fo, []⟩).fo.length + 1 := by
    have e3 : ∀ s : Os, (∀ p ∈ g.ps, p ∈ s.kn) → (ostep s g).fo = s.fo ++ [g] := fun s h => by
      unfold ostep
      rw [if_pos (List.all_eq_true.mpr fun p z => decide_eq_true (h p z))]
    rw [e3 _ fun p h => hm p (hp p h)]
    simp
  have h4 := h3.1
  have h5 := h2.2.1.2
  have h6 := h1.2.1.2
  unfold opass
  rw [e] at h4 ⊢
  simp only [List.length_nil, Nat.add_zero] at h4
  have h6 : fo.length ≤ (a.foldl ostep ⟨k, fo, []⟩).fo.length := h6
  omega
theorem min_rk (rk : Gt → Nat) : ∀ l : List Gt, l ≠ [] → ∃ g ∈ l, ∀ h ∈ l, rk g ≤ rk h
  | [], h => absurd rfl h
  | [g], _ => ⟨g, by simp, by simp⟩
  | g :: g2 :: l, _ => by
    obtain ⟨m, h1, h2⟩ := min_rk rk (g2 :: l) (by simp)
    by_cases e : rk g ≤ rk m
    · refine ⟨g, by simp, fun h hh => ?_⟩
      rcases List.mem_cons.mp hh with rfl | hh
      · exact Nat.le_refl _
      · exact Nat.le_trans e (h2 h hh)
    · refine ⟨m, List.mem_cons_of_mem _ h1, fun h hh => ?_⟩
      rcases List.mem_cons.mp hh with rfl | hh
      · omega
      · exact h2 h hh
theorem ordN_ok {src : List Str} {gs : List Gt} (rk : Gt → Nat) (hr : ∀ g ∈ gs, ∀ p ∈ g.ps, p ∈ src ∨ ∃ h ∈ gs, h.l = p ∧ rk h < rk g) : ∀ (n : Nat) (k : List Str) (fo ws : List Gt), ws.length ≤ n → OI src gs k fo ws → ∃ k' fo', ordN n k fo ws = .ok (k', fo') ∧ OI src gs k' fo' []
  | n, k, fo, [], _, h => ⟨k, fo, by cases n <;> rfl, h⟩
  | 0, _, _, g :: ws, hn, _ => by simp at hn
  | n + 1, k, fo, g :: ws, hn, h => by
    obtain ⟨m, m1, m2⟩ := min_rk rk (g :: ws) (by simp)
    have hmg : m ∈ gs := h.perm.mem_iff.mp (List.mem_append_right _ m1)
    have hless := opass_less (k := k) (fo := fo) m1 fun p hp => by
      rcases hr m hmg p hp with z | ⟨x, x1, x2, x3⟩
      · exact (h.kn p).mpr (.inl z)
      · rcases List.mem_append.mp (h.perm.mem_iff.mpr x1) with y | y
        · exact (h.kn p).mpr (.inr (List.mem_map.mpr ⟨x, y, x2⟩))
        · have := m2 x y
          omega
    have e : ordN (n + 1) k fo (g :: ws) = ordN n (opass k fo (g :: ws)).kn (opass k fo (g :: ws)).fo (opass k fo (g :: ws)).le := if_neg (by omega)
    rw [e]
    have hoi : OI src gs (opass k fo (g :: ws)).kn (opass k fo (g :: ws)).fo (opass k fo (g :: ws)).le := opass_oi (g :: ws) ⟨k, fo, []⟩ h
    exact ordN_ok rk hr n _ _ _ (by simp at hn hless; omega) hoi
theorem mem_foldins (l : List Str) : ∀ (q : List Str) (x : Str), x ∈ l.foldl ins q ↔ x ∈ q ∨ x ∈ l := by
  induction l with
  | nil => intro q x; simp
  | cons a l ih =>
    intro q x
    rw [List.foldl_cons, ih, mem_ins]
    simp [or_assoc]
theorem order_ok {src : List Str} {gs : List Gt} (rk : Gt → Nat) (hr : ∀ g ∈ gs, ∀ p ∈ g.ps, p ∈ src ∨ ∃ h ∈ gs, h.l = p ∧ rk h < rk g) : ∃ k ord, order src gs = .ok (k, ord) ∧ ord.Perm gs ∧ Ordd src ord := by
  obtain ⟨k, ord, e, h⟩ := ordN_ok rk hr gs.length (src.foldl ins []) [] gs (Nat.le_refl _) ⟨by simp, fun x => by rw [mem_foldins]; simp, fun pre g post z => by simp at z⟩
  exact ⟨k, ord, e, by simpa using h.perm, h.od⟩
/-! ### the law's parts make a circuit -/
def ALL : List Str := ["a", "b", "c", "d", "q0", "q1", "g0", "g1", "g2", "g3", "g4", "g5", "g6"]
def k0 (xs : List Int) (most : Nat) : List Str := inL xs most ++ qL xs
def gAt (xs : List Int) (most k : Nat) : Gt := gateL (rich (cellI xs (1 + k)) k) (k0 xs most ++ (List.range k).map gn) (gn k)
theorem gk_is (xs : List Int) (most : Nat) : ∀ n : Nat, (List.range n).foldl (pStep xs) ([], k0 xs most) = ((List.range n).map (gAt xs most), k0 xs most ++ (List.range n).map gn)
  | 0 => by simp
  | n + 1 => by
    rw [List.range_succ, List.foldl_append, gk_is xs most n]
    simp [pStep, gAt]
theorem gk1 (xs : List Int) (most : Nat) : (gkL xs most).1 = (List.range (nG xs)).map (gAt xs most) := congrArg Prod.fst (gk_is xs most (nG xs))
theorem gk2 (xs : List Int) (most : Nat) : (gkL xs most).2 = k0 xs most ++ (List.range (nG xs)).map gn := congrArg Prod.snd (gk_is xs most (nG xs))
theorem gns7 : (List.range 7).map gn = (["g0", "g1", "g2", "g3", "g4", "g5", "g6"] : List Str) := by decide +kernel
theorem range_sub {n m : Nat} (h : n ≤ m) : (List.range n).Sublist (List.range m) := by
  obtain ⟨d, rfl⟩ := Nat.exists_eq_add_of_le h
  rw [List.range_add]
  exact List.sublist_append_left _ _
theorem known_sub (xs : List Int) (most : Nat) : (k0 xs most ++ (List.range (nG xs)).map gn).Sublist ALL := by
  have e : ALL = ((["a", "b", "c", "d"] : List Str) ++ (["q0", "q1"] : List Str)) ++ (List.range 7).map gn := by rw [gns7]; rfl
  rw [e]
  exact List.Sublist.append (List.Sublist.append (List.take_sublist _ _) (List.take_sublist _ _)) ((range_sub (nG_le xs).2).map gn)
theorem all_nodup : ALL.Nodup := by decide +kernel
theorem known_nodup (xs : List Int) (most : Nat) : (k0 xs most ++ (List.range (nG xs)).map gn).Nodup := (known_sub xs most).nodup all_nodup
theorem map_getD (l : List Str) : (List.range l.length).map (fun k => l.getD k "") = l := by
  apply List.ext_getElem
  · simp
  · intro i h1 h2
    simp only [List.getElem_map, List.getElem_range, List.getD_eq_getElem?_getD]
    rw [List.getElem?_eq_getElem h2]
    rfl
theorem rs1 (xs : List Int) (most : Nat) : (partsL xs most).rs.map Prod.fst = qL xs := by
  show ((List.range (qL xs).length).map (regL xs most)).map Prod.fst = _
  rw [List.map_map]
  exact map_getD (qL xs)
theorem gate_l (c : Int) (known : List Str) (name : Str) : (gateL c known name).l = name := by
  unfold gateL
  split <;> rfl
theorem pick_mem {known : List Str} (h : known ≠ []) (r : Int) : pick known r ∈ known := by
  have hl : 0 < known.length := List.length_pos_iff.mpr h
  have h1 := Int.emod_nonneg r (show (known.length : Int) ≠ 0 by omega)
  have h2 := Int.emod_lt_of_pos r (show (0 : Int) < known.length by omega)
  exact List.mem_of_getElem? (itemD (l := known) "" (show (r % (known.length : Int)).toNat < known.length by omega))
theorem gate_ps {c : Int} {known : List Str} {name : Str} (h : known ≠ []) : ∀ p ∈ (gateL c known name).ps, p ∈ known := by
  unfold gateL
  split
  · intro p hp
    cases hp
  · intro p hp
    obtain ⟨i, _, rfl⟩ := List.mem_map.mp hp
    exact pick_mem h _
theorem kind_mem (c : Int) : kindL c ∈ K13 := by
  have h1 := Int.emod_nonneg c (show (13 : Int) ≠ 0 by omega)
  have h2 := Int.emod_lt_of_pos c (show (0 : Int) < 13 by omega)
  exact List.mem_of_getElem? (itemD (l := K13) "" (show (c % 13).toNat < 13 by omega))
theorem gate_form (c : Int) (known : List Str) (name : Str) : (gateL c known name).k ∈ KIN ∧ mayHave (gateL c known name).k ((gateL c known name).ps.length : Int) = true ∧ (gateL c known name).ps.length ≤ 4 := by
  have hk : ∀ k ∈ K13, k ∈ KIN ∧ ((k ∈ (["low", "high"] : List Str) → mayHave k 0 = true) ∧ ((¬ k ∈ (["low", "high"] : List Str) → k ∈ (["not", "buf"] : List Str) → mayHave k 1 = true) ∧ (¬ k ∈ (["low", "high"] : List Str) → ¬ k ∈ (["not", "buf"] : List Str) → (mayHave k 1 = true ∧ mayHave k 2 = true ∧ mayHave k 3 = true ∧ mayHave k 4 = true)))) := by decide +kernel
  obtain ⟨a1, a2, a3, a4⟩ := hk _ (kind_mem c)
  unfold gateL
  split
  · rename_i h
    exact ⟨a1, a2 h, Nat.zero_le _⟩
  · rename_i h
    refine ⟨a1, ?_, by simp; exact cntL_le c⟩
    show mayHave (kindL c) ((((List.range (cntL c)).map (pinI known c)).length : Nat) : Int) = true
    rw [List.length_map, List.length_range]
    by_cases e : kindL c ∈ (["not", "buf"] : List Str)
    · have : cntL c = 1 := if_pos e
      rw [this]
      exact a3 h e
    · obtain ⟨b1, b2, b3, b4⟩ := a4 h e
      have h1 := Int.emod_nonneg (c / 13) (show (6 : Int) ≠ 0 by omega)
      have h2 := Int.emod_lt_of_pos (c / 13) (show (0 : Int) < 6 by omega)
      have e2 : cntL c = ([2, 2, 3, 1, 2, 4] : List Nat).getD (c / 13 % 6).toNat 0 := if_neg e
      rw [e2]
      have : (c / 13 % 6).toNat < 6 := by omega
      match (c / 13 % 6).toNat, this with
      | 0, _ => exact b2
      | 1, _ => exact b2
      | 2, _ => exact b3
      | 3, _ => exact b1
      | 4, _ => exact b2
      | 5, _ => exact b4
      | n + 6, z => omega
theorem k0_ne (xs : List Int) (most : Nat) (h1 : 1 ≤ most) (h2 : most ≤ 4) (l : List Str) : k0 xs most ++ l ≠ [] := by
  have := (in_pos xs most h1 h2).1
  intro z
  have e : (k0 xs most ++ l).length = 0 := by rw [z]; rfl
  unfold k0 at e
  rw [List.length_append, List.length_append] at e
  omega
theorem gs_mem {xs : List Int} {most : Nat} {g : Gt} : g ∈ (partsL xs most).gs ↔ ∃ k, k < nG xs ∧ g = gAt xs most k := by
  have : g ∈ (partsL xs most).gs ↔ g ∈ (gkL xs most).1 := by
    show g ∈ (if cellI xs 0 / 84 % 2 = 1 then (gkL xs most).1.reverse else (gkL xs most).1) ↔ _
    split <;> simp
  rw [this, gk1]
  simp only [List.mem_map, List.mem_range]
  exact ⟨fun ⟨k, h, e⟩ => ⟨k, h, e.symm⟩, fun ⟨k, h, e⟩ => ⟨k, h, e.symm⟩⟩
theorem gs_perm (xs : List Int) (most : Nat) : (partsL xs most).gs.Perm ((List.range (nG xs)).map (gAt xs most)) := by
  rw [← gk1]
  show (if cellI xs 0 / 84 % 2 = 1 then (gkL xs most).1.reverse else (gkL xs most).1).Perm _
  split
  · exact List.reverse_perm _
  · exact List.Perm.refl _
theorem lines_perm (xs : List Int) (most : Nat) : (linesOf (partsL xs most).is (partsL xs most).rs (partsL xs most).gs).Perm (k0 xs most ++ (List.range (nG xs)).map gn) := by
  unfold linesOf srcOf
  rw [rs1]
  refine List.Perm.append_left _ ?_
  refine ((gs_perm xs most).map Gt.l).trans ?_
  rw [List.map_map]
  refine List.Perm.of_eq (List.map_congr_left fun k _ => ?_)
  exact gate_l _ _ _
end
end CC

set_option maxHeartbeats 400000
namespace CC
open PySem PySem.Spec PyProof.Rows L2 Qw
open Evl hiding ea_cons
open Pw (Dt Rp RpL Wk R2d R1d RLd RLn Kq KqL truD flatD fl py pyL rangeD charsD spX2 Xm Xm0 tyD isI isB isS isTp isL rl_isInt rl_isBool rl_isStr rl_isTup rl_isList rl_int rl_max2 rl_min2 rl_len rl_lenT rl_tup rl_tupT rl_lenS rl_all rl_any rn_list rn_listT r2_I0 r2_B0 r2_eqI r2_neI r2_eqS r2_neS r2_eq r2_ne r2_I r2_inS r2_niS r2_in r2_inT r2_ixL r2_ixT r2_ixS r2_addS r2_eqD r2_neD r2_ixM r1_U ixN_at itemD cr_int cr_min2 cr_max2 cr_list cr_tuple cr_len pe_globI pe_globS pe_globR pe_tyname rTupS rInt1 rMin2)
local macro_rules | `(tactic| walk_at "side") => `(tactic| first
  | decide | omega | assumption | (show (0 : Int) < _; omega) | exact (show CDiv _ _ from ⟨by omega, by omega⟩) | exact (show CMul _ _ from Or.inr ⟨by omega, by omega⟩) | exact (show CMul _ _ from Or.inl ⟨by omega, by omega⟩) | exact (show CPow _ _ from ⟨by decide, by decide, by decide⟩))
local macro_rules | `(tactic| walk_at "op") => `(tactic| first
  | exact r2_I0 | exact r2_B0 | exact r2_eqI | exact r2_neI | exact r2_eqS | exact r2_neS
  | exact r2_eq rfl rfl rfl | exact r2_ne rfl rfl rfl
  | (refine' r2_I ?_; walk_at "side") | exact r2_inS | exact r2_niS)
local macro_rules | `(tactic| walk_at "rl") => `(tactic| first
  | exact rl_int | exact rl_max2 | exact rl_min2 | exact rl_len | exact rl_lenT | exact rl_isInt (by first | rfl | assumption) | exact rl_isBool (by first | rfl | assumption) | exact rl_isStr (by first | rfl | assumption) | exact rl_isTup (by first | rfl | assumption) | exact rl_isList (by first | rfl | assumption) | exact rl_tup | exact rl_tupT | (refine' rl_lenS ?_; walk_at "side"))
local macro_rules | `(tactic| walk_at "ap") => `(tactic| first
  | exact ap_nil
  | (refine' ap_cons ?eah ?eat; (case eah => walk_at "ep"); (case eat => walk_at "ap")))
local macro_rules | `(tactic| walk_at "ep") => `(tactic| first
  | exact ep_int | exact ep_bl | exact ep_str | exact ep_non | exact ep_ty | exact ep_var
  | (refine' ep_op ?eva ?evb ?evc; (case eva => walk_at "ep"); (case evb => walk_at "ep"); (case evc => walk_at "op"))
  | (refine' ep_cb ?evd ?eve; (case evd => walk_at "ap"); (case eve => walk_at "rl"))
  | (refine' ep_un ?evf r1_U; (case evf => walk_at "ep"))
  | (refine' ep_tup ?evg ?evi; (case evg => walk_at "ap"); (case evi => exact Nat.le_of_ble_eq_true rfl))
  | (refine' ep_lst ?evh ?evj; (case evh => walk_at "ap"); (case evj => exact Nat.le_of_ble_eq_true rfl))
  | assumption)
local macro_rules | `(tactic| walk_at "ee") => `(tactic| (refine' ee_p ?eep; (case eep => walk_at "ep")))
local macro_rules | `(tactic| walk_at "te") => `(tactic| (refine' te_p ?tep; (case tep => walk_at "tp")))
local macro_rules | `(tactic| walk_at "tp") => `(tactic| first
  | (refine' tp_test ?tea; (case tea => walk_at "ep"))
  | (refine' tp_B ?teb; (case teb => walk_at "ep"))
  | (refine' tp_not ?tec; (case tec => walk_at "tp"))
  | (refine' tp_or ?ted ?tee; (case ted => walk_at "tp"); (case tee => intro _; walk_at "tp"))
  | (refine' tp_and ?tef ?teg; (case tef => walk_at "tp"); (case teg => intro _; walk_at "tp"))
  | assumption)
section
variable {P : Program} {w : World} {K : PySem.W.Frag} {mg : Str → Option Value} {base : Heap}

theorem dup_none : ∀ (l seen : List Str), l.Nodup → (∀ x ∈ l, ¬ x ∈ seen) → dupOf seen l = none
  | [], _, _, _ => rfl
  | a :: l, seen, h, hs => by
    have h1 : ¬ a ∈ seen := hs a (by simp)
    have e : dupOf seen (a :: l) = dupOf (seen ++ [a]) l := if_neg h1
    rw [e]
    obtain ⟨n1, n2⟩ := List.nodup_cons.mp h
    refine dup_none l _ n2 fun x hx z => ?_
    rcases List.mem_append.mp z with z | z
    · exact hs x (by simp [hx]) z
    · exact n1 (List.mem_singleton.mp z ▸ hx)
theorem rk_gn : ∀ k : Nat, k < 7 → ((List.range 7).map gn).idxOf (gn k) = k := by
  intro k hk
  match k, hk with
  | 0, _ => decide +kernel
  | 1, _ => decide +kernel
  | 2, _ => decide +kernel
  | 3, _ => decide +kernel
  | 4, _ => decide +kernel
  | 5, _ => decide +kernel
  | 6, _ => decide +kernel
  | k + 7, h => omega
theorem all_names : ∀ x ∈ ALL, nameB x = true ∧ x.length ≤ 12 := by decide +kernel
section
variable {xs : List Int} {most : Nat}
theorem known_all {x : Str} (h : x ∈ (gkL xs most).2) : x ∈ ALL := (known_sub xs most).subset (gk2 xs most ▸ h)
theorem lines_known {x : Str} : x ∈ linesOf (partsL xs most).is (partsL xs most).rs (partsL xs most).gs ↔ x ∈ (gkL xs most).2 := by
  rw [gk2]
  exact (lines_perm xs most).mem_iff
theorem gat_ps (h1 : 1 ≤ most) (h2 : most ≤ 4) {k : Nat} : ∀ p ∈ (gAt xs most k).ps, p ∈ k0 xs most ++ (List.range k).map gn := gate_ps (k0_ne xs most h1 h2 _)
theorem range_gn {j k : Nat} (h : k ≤ j) : ∀ x ∈ (List.range k).map gn, x ∈ (List.range j).map gn := ((range_sub h).map gn).subset
theorem gat_known (h1 : 1 ≤ most) (h2 : most ≤ 4) {k : Nat} (hk : k < nG xs) : ∀ p ∈ (gAt xs most k).ps, p ∈ (gkL xs most).2 := fun p hp => by
  rw [gk2]
  rcases List.mem_append.mp (gat_ps h1 h2 p hp) with z | z
  · exact List.mem_append_left _ z
  · exact List.mem_append_right _ (range_gn (Nat.le_of_lt hk) p z)
theorem gk2_ne (h1 : 1 ≤ most) (h2 : most ≤ 4) : (gkL xs most).2 ≠ [] := by
  rw [gk2]
  exact k0_ne xs most h1 h2 _
theorem out_known (h1 : 1 ≤ most) (h2 : most ≤ 4) (k : Nat) : outL xs (gkL xs most).2 k ∈ (gkL xs most).2 := by
  have hl : 0 < (gkL xs most).2.length := List.length_pos_iff.mpr (gk2_ne h1 h2)
  have hmn : 0 < mn4 (gkL xs most).2.length ∧ mn4 (gkL xs most).2.length ≤ ((gkL xs most).2.length : Int) := by
    unfold mn4
    split <;> omega
  have n1 := Int.emod_nonneg (r8 xs / (7 + (k : Int))) (show mn4 (gkL xs most).2.length ≠ 0 by omega)
  have n2 := Int.emod_lt_of_pos (r8 xs / (7 + (k : Int))) hmn.1
  exact List.mem_of_getElem? (itemD (l := (gkL xs most).2) "" (by omega))
theorem q_known {x : Str} (h : x ∈ qL xs) : x ∈ (gkL xs most).2 := by
  rw [gk2]
  exact List.mem_append_left _ (List.mem_append_right _ h)
theorem in_known {x : Str} (h : x ∈ inL xs most) : x ∈ (gkL xs most).2 := by
  rw [gk2]
  exact List.mem_append_left _ (List.mem_append_left _ h)
theorem rs_mem {r : RegT} (h : r ∈ (partsL xs most).rs) : ∃ k, k < (qL xs).length ∧ r = regL xs most k := by
  obtain ⟨k, h1, h2⟩ := List.mem_map.mp (show r ∈ (List.range (qL xs).length).map (regL xs most) from h)
  exact ⟨k, List.mem_range.mp h1, h2.symm⟩
theorem os_mem {x : Str} (h : x ∈ (partsL xs most).os) : ∃ k, x = outL xs (gkL xs most).2 k := by
  obtain ⟨k, h1, h2⟩ := List.mem_map.mp (show x ∈ (List.range (1 + r8 xs % 3).toNat).map (outL xs (gkL xs most).2) from h)
  exact ⟨k, h2.symm⟩
theorem rs_known (h1 : 1 ≤ most) (h2 : most ≤ 4) {r : RegT} (h : r ∈ (partsL xs most).rs) : r.1 ∈ (gkL xs most).2 ∧ r.2 ∈ (gkL xs most).2 := by
  obtain ⟨k, hk, rfl⟩ := rs_mem h
  exact ⟨q_known (List.mem_of_getElem? (itemD (l := qL xs) "" hk)), pick_mem (gk2_ne h1 h2) _⟩
theorem gs_len : (partsL xs most).gs.length = nG xs := by
  have := (gs_perm xs most).length_eq
  rw [this]
  simp
theorem lines_len : (linesOf (partsL xs most).is (partsL xs most).rs (partsL xs most).gs).length ≤ 13 := by
  rw [(lines_perm xs most).length_eq]
  exact (known_sub xs most).length_le
theorem parts_ok (h1 : 1 ≤ most) (h2 : most ≤ 4) : (partsL xs most).ok := by
  refine ⟨?_, ?_, ?_, ?_, fun g hg => ?_⟩
  · have := (in_pos xs most h1 h2).2
    show (inL xs most).length ≤ 1000
    omega
  · have := q_le xs
    show ((List.range (qL xs).length).map (regL xs most)).length ≤ 1000
    simp
    omega
  · rw [gs_len]
    have := nG_le xs
    omega
  · show ((List.range (1 + r8 xs % 3).toNat).map (outL xs (gkL xs most).2)).length ≤ 1000
    simp
    omega
  · obtain ⟨k, _, rfl⟩ := gs_mem.mp hg
    exact (gate_form _ _ _).2.2
theorem src_k0 : srcOf (partsL xs most).is (partsL xs most).rs = k0 xs most := by
  unfold srcOf
  rw [rs1]
  rfl
theorem law_order (h1 : 1 ≤ most) (h2 : most ≤ 4) : ∃ k ord, order (srcOf (partsL xs most).is (partsL xs most).rs) (partsL xs most).gs = .ok (k, ord) ∧ ord.Perm (partsL xs most).gs ∧ Ordd (srcOf (partsL xs most).is (partsL xs most).rs) ord := by
  refine order_ok (fun g => ((List.range 7).map gn).idxOf g.l) fun g hg p hp => ?_
  obtain ⟨k, hk, rfl⟩ := gs_mem.mp hg
  rw [src_k0]
  rcases List.mem_append.mp (gat_ps h1 h2 p hp) with z | z
  · exact .inl z
  · obtain ⟨j, hj, rfl⟩ := List.mem_map.mp z
    have hj := List.mem_range.mp hj
    have hn := (nG_le xs).2
    refine .inr ⟨gAt xs most j, gs_mem.mpr ⟨j, by omega, rfl⟩, gate_l _ _ _, ?_⟩
    show ((List.range 7).map gn).idxOf (gAt xs most j).l < ((List.range 7).map gn).idxOf (gAt xs most k).l
    have e1 : (gAt xs most j).l = gn j := gate_l _ _ _
    have e2 : (gAt xs most k).l = gn k := gate_l _ _ _
    rw [e1, e2, rk_gn j (by omega), rk_gn k (by omega)]
    exact hj
theorem law_uses (h1 : 1 ≤ most) (h2 : most ≤ 4) : ∀ y ∈ usesOf (partsL xs most), y ∈ (gkL xs most).2 := by
  intro y hy
  rcases List.mem_append.mp hy with hy | hy
  · rcases List.mem_append.mp hy with hy | hy
    · obtain ⟨g, hg, hp⟩ := List.mem_flatMap.mp hy
      obtain ⟨k, hk, rfl⟩ := gs_mem.mp hg
      exact gat_known h1 h2 hk y hp
    · obtain ⟨r, hr, rfl⟩ := List.mem_map.mp hy
      exact (rs_known h1 h2 hr).2
  · obtain ⟨k, rfl⟩ := os_mem hy
    exact out_known h1 h2 k
theorem str_ok {x : Str} (h : x ∈ (gkL xs most).2) : isName (.str x) = true ∧ okS (.str x) = true := by
  obtain ⟨a, b⟩ := all_names x (known_all h)
  exact ⟨a, decide_eq_true (by omega)⟩
theorem strs_ok {l : List Str} (h : ∀ x ∈ l, x ∈ (gkL xs most).2) : (l.map Dt.str).all isName = true ∧ (l.map Dt.str).all okS = true := by
  refine ⟨List.all_eq_true.mpr fun d hd => ?_, List.all_eq_true.mpr fun d hd => ?_⟩
  · obtain ⟨x, hx, rfl⟩ := List.mem_map.mp hd
    exact (str_ok (h x hx)).1
  · obtain ⟨x, hx, rfl⟩ := List.mem_map.mp hd
    exact (str_ok (h x hx)).2
theorem law_init (K : PySem.W.Frag) (h1 : 1 ≤ most) (h2 : most ≤ 4) : ∃ ord, ord.Perm (partsL xs most).gs ∧ Ordd (srcOf (partsL xs most).is (partsL xs most).rs) ord ∧ ∀ a1 a2 a3 a4, seqOf a1 ((partsL xs most).is.map .str) → seqOf a2 ((partsL xs most).rs.map regD) → seqOf a3 ((partsL xs most).gs.map Gt.d) → seqOf a4 ((partsL xs most).os.map .str) → R_Circuit_init K [a1, a2, a3, a4] (.f CF (circE (partsL xs most) ord)) := by
  obtain ⟨k, ord, e, hp, ho⟩ := law_order (xs := xs) h1 h2
  have ok := parts_ok (xs := xs) h1 h2
  have hi := strs_ok (xs := xs) (most := most) (l := (partsL xs most).is) fun x hx => in_known hx
  have hos := strs_ok (xs := xs) (most := most) (l := (partsL xs most).os) fun x hx => by
    obtain ⟨k, rfl⟩ := os_mem hx
    exact out_known h1 h2 k
  have hrs : ((partsL xs most).rs.map regD).all isReg = true ∧ ((partsL xs most).rs.map regD).all okR = true := by
    refine ⟨List.all_eq_true.mpr fun d hd => ?_, List.all_eq_true.mpr fun d hd => ?_⟩
    all_goals
      obtain ⟨r, hr, rfl⟩ := List.mem_map.mp hd
      obtain ⟨g1, g2⟩ := rs_known h1 h2 hr
      obtain ⟨a1, b1⟩ := str_ok g1
      obtain ⟨a2, b2⟩ := str_ok g2
    · show (decide (([Dt.str r.1, Dt.str r.2] : List Dt).length = 2) && (isName (.str r.1) && (isName (.str r.2) && true))) = true
      rw [a1, a2]
      rfl
    · show (decide (([Dt.str r.1, Dt.str r.2] : List Dt).length ≤ 40000) && (okS (.str r.1) && (okS (.str r.2) && true))) = true
      rw [b1, b2]
      rfl
  have hgs : ((partsL xs most).gs.map Gt.d).all isGate = true ∧ ((partsL xs most).gs.map Gt.d).all okG = true := by
    refine ⟨List.all_eq_true.mpr fun d hd => ?_, List.all_eq_true.mpr fun d hd => ?_⟩
    all_goals
      obtain ⟨g, hg, rfl⟩ := List.mem_map.mp hd
      have hl : g.l ∈ (gkL xs most).2 := lines_known.mp (List.mem_append_right _ (List.mem_map.mpr ⟨g, hg, rfl⟩))
      obtain ⟨j, hj, rfl⟩ := gs_mem.mp hg
      obtain ⟨a1, b1⟩ := str_ok hl
      obtain ⟨a2, b2⟩ := strs_ok (xs := xs) (most := most) (l := (gAt xs most j).ps) (gat_known h1 h2 hj)
      obtain ⟨f1, f2, f3⟩ := gate_form (rich (cellI xs (1 + j)) j) (k0 xs most ++ (List.range j).map gn) (gn j)
    · show (decide ((gAt xs most j).k ∈ KIN) && (mayHave (gAt xs most j).k (((gAt xs most j).ps.map Dt.str).length : Int) && (isName (.str (gAt xs most j).l) && ((gAt xs most j).ps.map Dt.str).all isName))) = true
      rw [a1, a2, List.length_map]
      have f1 : (gAt xs most j).k ∈ KIN := f1
      have f2 : mayHave (gAt xs most j).k ((gAt xs most j).ps.length : Int) = true := f2
      rw [f2, decide_eq_true f1]
      rfl
    · show (okS (.str (gAt xs most j).l) && ((tyD (.str (gAt xs most j).k)).isSome && (decide (((gAt xs most j).ps.map Dt.str).length ≤ 30000) && ((gAt xs most j).ps.map Dt.str).all okS))) = true
      rw [b1, b2, List.length_map]
      have f3 : (gAt xs most j).ps.length ≤ 4 := f3
      rw [decide_eq_true (show (gAt xs most j).ps.length ≤ 30000 by omega)]
      rfl
  have hform : formOk ((partsL xs most).is.map .str) ((partsL xs most).rs.map regD) ((partsL xs most).gs.map Gt.d) ((partsL xs most).os.map .str) = true := by
    unfold formOk
    rw [hi.1, hos.1, hrs.1, hgs.1]
    rfl
  have hr : initR K (partsL xs most) = .f CF (circE (partsL xs most) ord) := by
    unfold initR
    rw [dup_none _ [] ((lines_perm xs most).nodup_iff.mpr (known_nodup xs most)) fun x _ z => nomatch z]
    rw [show (usesOf (partsL xs most)).find? (fun y => !decide (y ∈ linesOf (partsL xs most).is (partsL xs most).rs (partsL xs most).gs)) = none from List.find?_eq_none.mpr fun y hy => by
      rw [decide_eq_true (lines_known.mpr (law_uses h1 h2 y hy))]
      decide]
    show sizeI K (partsL xs most) = _
    unfold sizeI
    have hll := lines_len (xs := xs) (most := most)
    have hsl : (srcOf (partsL xs most).is (partsL xs most).rs).length ≤ 13 := by
      unfold linesOf at hll
      rw [List.length_append] at hll
      omega
    rw [if_pos ⟨by omega, by omega⟩, e]
    rfl
  refine ⟨ord, hp, ho, fun a1 a2 a3 a4 s1 s2 s3 s4 => ⟨a1, a2, a3, a4, _, _, _, _, rfl, ⟨s1, s2, s3, s4⟩, ?_, ⟨hi.2, hrs.2, hgs.2, hos.2⟩, .inr ⟨hform, partsL xs most, rfl, rfl, rfl, rfl, ok, hr.symm⟩⟩⟩
  simp only [List.length_map]
  exact ⟨ok.1, ok.2.1, ok.2.2.1, ok.2.2.2.1⟩
end
end
end CC

set_option maxHeartbeats 400000
namespace CC
open PySem PySem.Spec PyProof.Rows L2 Qw
open Evl hiding ea_cons
open Pw (Dt Rp RpL Wk R2d R1d RLd RLn Kq KqL truD flatD fl py pyL rangeD charsD spX2 Xm Xm0 tyD isI isB isS isTp isL rl_isInt rl_isBool rl_isStr rl_isTup rl_isList rl_int rl_max2 rl_min2 rl_len rl_lenT rl_tup rl_tupT rl_lenS rl_all rl_any rn_list rn_listT r2_I0 r2_B0 r2_eqI r2_neI r2_eqS r2_neS r2_eq r2_ne r2_I r2_inS r2_niS r2_in r2_inT r2_ixL r2_ixT r2_ixS r2_addS r2_eqD r2_neD r2_ixM r1_U ixN_at itemD cr_int cr_min2 cr_max2 cr_list cr_tuple cr_len pe_globI pe_globS pe_globR pe_tyname rTupS rInt1 rMin2)
local macro_rules | `(tactic| walk_at "side") => `(tactic| first
  | decide | omega | assumption | (show (0 : Int) < _; omega) | exact (show CDiv _ _ from ⟨by omega, by omega⟩) | exact (show CMul _ _ from Or.inr ⟨by omega, by omega⟩) | exact (show CMul _ _ from Or.inl ⟨by omega, by omega⟩) | exact (show CPow _ _ from ⟨by decide, by decide, by decide⟩))
local macro_rules | `(tactic| walk_at "op") => `(tactic| first
  | exact r2_I0 | exact r2_B0 | exact r2_eqI | exact r2_neI | exact r2_eqS | exact r2_neS
  | exact r2_eq rfl rfl rfl | exact r2_ne rfl rfl rfl
  | (refine' r2_I ?_; walk_at "side") | exact r2_inS | exact r2_niS)
local macro_rules | `(tactic| walk_at "rl") => `(tactic| first
  | exact rl_int | exact rl_max2 | exact rl_min2 | exact rl_len | exact rl_lenT | exact rl_isInt (by first | rfl | assumption) | exact rl_isBool (by first | rfl | assumption) | exact rl_isStr (by first | rfl | assumption) | exact rl_isTup (by first | rfl | assumption) | exact rl_isList (by first | rfl | assumption) | exact rl_tup | exact rl_tupT | (refine' rl_lenS ?_; walk_at "side"))
local macro_rules | `(tactic| walk_at "ap") => `(tactic| first
  | exact ap_nil
  | (refine' ap_cons ?eah ?eat; (case eah => walk_at "ep"); (case eat => walk_at "ap")))
local macro_rules | `(tactic| walk_at "ep") => `(tactic| first
  | exact ep_int | exact ep_bl | exact ep_str | exact ep_non | exact ep_ty | exact ep_var
  | (refine' ep_op ?eva ?evb ?evc; (case eva => walk_at "ep"); (case evb => walk_at "ep"); (case evc => walk_at "op"))
  | (refine' ep_cb ?evd ?eve; (case evd => walk_at "ap"); (case eve => walk_at "rl"))
  | (refine' ep_un ?evf r1_U; (case evf => walk_at "ep"))
  | (refine' ep_tup ?evg ?evi; (case evg => walk_at "ap"); (case evi => exact Nat.le_of_ble_eq_true rfl))
  | (refine' ep_lst ?evh ?evj; (case evh => walk_at "ap"); (case evj => exact Nat.le_of_ble_eq_true rfl))
  | assumption)
local macro_rules | `(tactic| walk_at "ee") => `(tactic| (refine' ee_p ?eep; (case eep => walk_at "ep")))
local macro_rules | `(tactic| walk_at "te") => `(tactic| (refine' te_p ?tep; (case tep => walk_at "tp")))
local macro_rules | `(tactic| walk_at "tp") => `(tactic| first
  | (refine' tp_test ?tea; (case tea => walk_at "ep"))
  | (refine' tp_B ?teb; (case teb => walk_at "ep"))
  | (refine' tp_not ?tec; (case tec => walk_at "tp"))
  | (refine' tp_or ?ted ?tee; (case ted => walk_at "tp"); (case tee => intro _; walk_at "tp"))
  | (refine' tp_and ?tef ?teg; (case tef => walk_at "tp"); (case teg => intro _; walk_at "tp"))
  | assumption)
section
variable {P : Program} {w : World} {K : PySem.W.Frag} {mg : Str → Option Value} {base : Heap}

/-! ### the law's own reading of the forms -/
def R_law_is_name (ds : List Dt) (r : Rs) : Prop := ∃ v, ds = [v] ∧ okS v = true ∧ r = .d (.bl (isName v))
theorem l_law_is_name (ds : List Dt) (r : Rs) (h : R_law_is_name ds r) : ds.length = 1 := by
  obtain ⟨_, rfl, _⟩ := h
  rfl
abbrev s_law_is_name : Stmt := top 31
abbrev N_law_is_name : List Str := ["word", "char"]
theorem sc_law_is_name : FnScope N_law_is_name ["word"] (defScope s_law_is_name) := ⟨rfl, rfl, rfl, by decide +kernel, rfl, by decide +kernel, by decide +kernel⟩
theorem k_law_is_name (T : Txt K mg) (D : Dx K mg "_law_is_name" ["word"] s_law_is_name)  : Fx P w K mg base 1 "_law_is_name" ["word"] (spR P w K R_law_is_name) := by
  refine Fx.of D sc_law_is_name (l_law_is_name) fun f cdv A outer s H E hr => ?_
  refine ⟨_, (pss_cons (ps_if (PW.pt (pw_or (pt_not (pt_val (pe_callB call_isi (by rfl) T.f_isinstance (by decide +kernel) (pa_cons (pv 0) (pa_cons (pe_tyname (n := "str") T.f_str) pa_nil))))) (pw_or (pt_cmpR op_lt (pe_callB call_len_str (by rfl) T.f_len PySem.boot_len (pa_cons (pv 0) pa_nil)) pe_int (nomark _)) (pw_or (pt_cmpR op_gt (pe_callB call_len_str (by rfl) T.f_len PySem.boot_len (pa_cons (pv 0) pa_nil)) pe_int (nomark _)) (pw_or1 (pt_cmpR op_notInS (pe_ix ix_str (pv 0) pe_int (fun _ _ => rfl)) pe_str rfl)))))) (pss_one (ps_ret pe_bl)) pss_nil)
      (pss_one (ps_ret (pe_callB (cr_all rfl) (by rfl) T.f_all (by decide +kernel) (pa_cons (pe_lc (own := [("char", 1)]) (g := gName 1) (tt := tYes) rfl sc_law_is_name.nd (pi_str (pv 0)) (blkOk_by (N := N_law_is_name) (sc := defScope s_law_is_name) (by decide +kernel)) (fun _ _ _ _ _ => (pgn (i := 1) sc_law_is_name.nd)) (fun _ _ _ _ _ => pts_nil) (fun _ _ _ _ _ => (pe_cmpR op_inS (pv 1) pe_str rfl))) pa_nil))))), ?_⟩
  rintro ds r ⟨v, rfl, hv, rfl⟩
  left
  show Se P w K _ [.d v, .u] _
  have ht := okS_ty hv
  cases hT : isS v with
  | false =>
    refine se_when (b := true) (te_p (tp_or (a := true) (b := true) (tp_is (tp_not (a := isS v) (by walk_at "tp")) (by rw [hT]; rfl)) (fun z => nomatch z))) (fun _ => ?_) (fun z => nomatch z)
    refine se_seqF (se_ret (ee_p (ep_is ep_bl ?_)))
    cases v <;> first | rfl | cases hT
  | true =>
    cases v <;> first | cases hT | skip
    rename_i x
    have hl : x.length ≤ 40000 := of_decide_eq_true hv
    cases hx : x.cps.toList with
    | nil =>
      have h0 : x.length = 0 := by rw [len_cps, hx]; rfl
      refine se_when (b := true) (te_p (tp_is (tp_or (a := false) (tp_is (tp_not (a := true) (by walk_at "tp")) rfl) (fun _ => tp_or (a := decide ((x.length : Int) < 1)) (b := true) (by walk_at "tp") fun h => absurd (of_decide_eq_false h) (by omega))) (by rw [decide_eq_true (show (x.length : Int) < 1 by omega)]; rfl))) (fun _ => ?_) (fun z => nomatch z)
      refine se_seqF (se_ret (ee_p (ep_is ep_bl ?_)))
      show Dt.bl false = Dt.bl (nameB x)
      unfold nameB
      rw [hx]
    | cons c r =>
      have h1 : x.length ≠ 0 := by rw [len_cps, hx]; simp
      refine se_when (b := decide ((12 : Int) < x.length) || !decide (c ∈ LET.cps.toList)) (te_p (tp_is (tp_or (a := false) (tp_is (tp_not (a := true) (by walk_at "tp")) rfl) (fun _ => tp_or (a := decide ((x.length : Int) < 1)) (by walk_at "tp") fun _ => tp_or (by walk_at "tp") fun _ => tp_test (ep_op (ep_op ep_var ep_int (r2_ixS (by omega) (at0 hx))) ep_str r2_niS))) (by rw [decide_eq_false (show ¬ (x.length : Int) < 1 by omega)]; rfl))) (fun hb => ?_) (fun hb => ?_)
      · refine se_seqF (se_ret (ee_p (ep_is ep_bl ?_)))
        show _ = Dt.bl (nameB x)
        unfold nameB
        rw [hx]
        simp only [Bool.or_eq_true, decide_eq_true_eq, Bool.not_eq_true', decide_eq_false_iff_not] at hb
        congr 1
        symm
        simp only [Bool.and_eq_false_iff, decide_eq_false_iff_not]
        rcases hb with hb | hb
        · left; omega
        · right; left; exact hb
      · refine se_ret (ee_p (ep_is (ep_cb (ap_cons (ep_is (ep_new (np_mapT x.cps.toList (fun c => Dt.str ⟨#[c]⟩) (ip_str ep_var) (by rw [← len_cps]; exact hl) (fun c => .bl (decide (c ∈ CHR.cps.toList))) fun i c hc => ep_op ep_var ep_str r2_inS)) (e := .lst ((x.cps.toList.map fun c => decide (c ∈ CHR.cps.toList)).map .bl)) (by rw [List.map_map]; rfl)) ap_nil) rl_all) ?_))
        simp only [Bool.or_eq_false_iff, decide_eq_false_iff_not, Bool.not_eq_false', decide_eq_true_eq] at hb
        show _ = Dt.bl (nameB x)
        unfold nameB
        rw [hx]
        simp only [List.all_map]
        have h1 : decide (x.length ≤ 12) = true := decide_eq_true (by omega)
        rw [h1, decide_eq_true hb.2]
        simp
end
section
variable {P : Program} {w : World} {K : PySem.W.Frag} {mg : Str → Option Value} {base : Heap}
/-- what the law asks about: as okG, and the kind is a text or None -/
def okL : Dt → Bool
  | .tup [l, .str k, p] => okG (.tup [l, .str k, p])
  | .tup [l, .non, p] => okG (.tup [l, .non, p])
  | .tup [l, k, p] => false
  | d => okG d
def R_law_is_gate (ds : List Dt) (r : Rs) : Prop := ∃ v, ds = [v] ∧ okL v = true ∧ r = .d (.bl (isGate v))
theorem l_law_is_gate (ds : List Dt) (r : Rs) (h : R_law_is_gate ds r) : ds.length = 1 := by
  obtain ⟨_, rfl, _⟩ := h
  rfl
theorem okL_G {v : Dt} (h : okL v = true) : okG v = true := by
  unfold okL at h
  split at h <;> first | exact h | cases h
theorem in_non (xs : List Str) : R2d K (rIn K false) .non (.lst (xs.map .str)) (.bl false) := by
  have h := r2_in (K := K) (neg := false) (d := .non) (ds := xs.map Dt.str) rfl (flat_strsD xs) rfl (flat_strsV xs)
  rw [fl_strs] at h
  have e : inV (Pw.fl .non) (xs.map V.str) = false := by
    have key : ∀ l : List Str, ((l.map V.str).any fun y => eqV y V.non) = false := by
      intro l
      induction l with
      | nil => rfl
      | cons a l ih => rw [List.map_cons, List.any_cons, ih]; rfl
    exact key xs
  rw [e] at h
  exact h
theorem may_law (k : Str) (n : Nat) : (decide (k ∈ KIN) && mayHave k n) = (if k ∈ (["not", "buf"] : List Str) then decide ((n : Int) = 1) else if k ∈ (["low", "high"] : List Str) then decide ((n : Int) = 0) else (decide (k ∈ (["and", "or", "nand", "nor", "xor", "xnor"] : List Str)) && (decide ((1 : Int) ≤ n) && decide ((n : Int) ≤ 4)))) := by
  by_cases h : k ∈ KIN
  · have hk : ∀ k ∈ KIN, (k ∈ (["not", "buf"] : List Str) ∧ ¬ (k = "low" ∨ k = "high") ∧ (k = "not" ∨ k = "buf")) ∨ (¬ k ∈ (["not", "buf"] : List Str) ∧ k ∈ (["low", "high"] : List Str) ∧ (k = "low" ∨ k = "high")) ∨ (¬ k ∈ (["not", "buf"] : List Str) ∧ ¬ k ∈ (["low", "high"] : List Str) ∧ k ∈ (["and", "or", "nand", "nor", "xor", "xnor"] : List Str) ∧ ¬ (k = "low" ∨ k = "high") ∧ ¬ (k = "not" ∨ k = "buf")) := by decide +kernel
    rw [decide_eq_true h, Bool.true_and]
    unfold mayHave
    rcases hk k h with ⟨a, b, c⟩ | ⟨a, b, c⟩ | ⟨a, b, c, d, e⟩
    · rw [if_pos a, if_neg b, if_pos c]
    · rw [if_neg a, if_pos b, if_pos c]
    · rw [if_neg a, if_neg b, if_neg d, if_neg e, decide_eq_true c, Bool.true_and]
  · rw [decide_eq_false h, Bool.false_and]
    have h1 : ¬ k ∈ (["not", "buf"] : List Str) := fun z => h ((by decide +kernel : ∀ k ∈ (["not", "buf"] : List Str), k ∈ KIN) k z)
    have h2 : ¬ k ∈ (["low", "high"] : List Str) := fun z => h ((by decide +kernel : ∀ k ∈ (["low", "high"] : List Str), k ∈ KIN) k z)
    have h3 : ¬ k ∈ (["and", "or", "nand", "nor", "xor", "xnor"] : List Str) := fun z => h ((by decide +kernel : ∀ k ∈ (["and", "or", "nand", "nor", "xor", "xnor"] : List Str), k ∈ KIN) k z)
    rw [if_neg h1, if_neg h2, decide_eq_false h3, Bool.false_and]
abbrev s_law_is_gate : Stmt := top 32
abbrev N_law_is_gate : List Str := ["gate", "pin"]
theorem sc_law_is_gate : FnScope N_law_is_gate ["gate"] (defScope s_law_is_gate) := ⟨rfl, rfl, rfl, by decide +kernel, rfl, by decide +kernel, by decide +kernel⟩
theorem k_law_is_gate (T : Txt K mg) (D : Dx K mg "_law_is_gate" ["gate"] s_law_is_gate)  (G__law_is_name : Fx P w K mg base 1 "_law_is_name" ["word"] (spR P w K R_law_is_name)) : Fx P w K mg base 2 "_law_is_gate" ["gate"] (spR P w K R_law_is_gate) := by
  refine Fx.of D sc_law_is_gate (l_law_is_gate) fun f cdv A outer s H E hr => ?_
  refine ⟨_, (pss_cons (ps_if (PW.pt (pw_or (pt_not (pt_val (pe_callB call_isi (by rfl) T.f_isinstance (by decide +kernel) (pa_cons (pv 0) (pa_cons (pe_tyname (n := "tuple") T.f_tuple) pa_nil))))) (pw_or (pt_cmpR op_ne (pe_callB cr_len (by rfl) T.f_len PySem.boot_len (pa_cons (pv 0) pa_nil)) pe_int (nomark _)) (pw_or (pt_not (pt_val (pe_fx G__law_is_name (hr.mono (by decide)) (pa_cons (pe_ix ix_tup (pv 0) pe_int (fun _ _ => rfl)) pa_nil)))) (pw_or1 (pt_not (pt_val (pe_callB call_isi (by rfl) T.f_isinstance (by decide +kernel) (pa_cons (pe_ix ix_tup (pv 0) pe_int (fun _ _ => rfl)) (pa_cons (pe_tyname (n := "tuple") T.f_tuple) pa_nil)))))))))) (pss_one (ps_ret pe_bl)) pss_nil)
      (pss_cons (ps_if (pt_not (pt_val (pe_callB (cr_all rfl) (by rfl) T.f_all (by decide +kernel) (pa_cons (pe_lc (own := [("pin", 1)]) (g := gName 1) (tt := tYes) rfl sc_law_is_gate.nd (pi_tup (pe_ix ix_tup (pv 0) pe_int (fun _ _ => rfl))) (blkOk_by (N := N_law_is_gate) (sc := defScope s_law_is_gate) (by decide +kernel)) (fun _ _ _ _ _ => (pgn (i := 1) sc_law_is_gate.nd)) (fun _ _ _ _ _ => pts_nil) (fun _ _ _ _ _ => (pe_fx G__law_is_name (hr.mono (by decide)) (pa_cons (pv 1) pa_nil)))) pa_nil)))) (pss_one (ps_ret pe_bl)) pss_nil)
      (pss_cons (ps_if (pt_cmpR op_in_seq (pe_ix ix_tup (pv 0) pe_int (fun _ _ => rfl)) (pe_lst (pa_cons pe_str (pa_cons pe_str pa_nil))) rfl) (pss_one (ps_ret (pe_cmpR op_eq (pe_callB cr_len (by rfl) T.f_len PySem.boot_len (pa_cons (pe_ix ix_tup (pv 0) pe_int (fun _ _ => rfl)) pa_nil)) pe_int (nomark _)))) pss_nil)
      (pss_cons (ps_if (pt_cmpR op_in_seq (pe_ix ix_tup (pv 0) pe_int (fun _ _ => rfl)) (pe_lst (pa_cons pe_str (pa_cons pe_str pa_nil))) rfl) (pss_one (ps_ret (pe_cmpR op_eq (pe_callB cr_len (by rfl) T.f_len PySem.boot_len (pa_cons (pe_ix ix_tup (pv 0) pe_int (fun _ _ => rfl)) pa_nil)) pe_int (nomark _)))) pss_nil)
      (pss_one (ps_ret (pe_and (pe_cmpR op_in_seq (pe_ix ix_tup (pv 0) pe_int (fun _ _ => rfl)) (pe_lst (pa_cons pe_str (pa_cons pe_str (pa_cons pe_str (pa_cons pe_str (pa_cons pe_str (pa_cons pe_str pa_nil))))))) rfl) (pe_one (pe_chain op_le op_le pe_int (pe_callB cr_len (by rfl) T.f_len PySem.boot_len (pa_cons (pe_ix ix_tup (pv 0) pe_int (fun _ _ => rfl)) pa_nil)) pe_int))))))))), ?_⟩
  rintro ds r ⟨v, rfl, hL, rfl⟩
  left
  show Se P w K _ [.d v, .u] _
  have ho := okL_G hL
  have ht := okG_ty ho
  cases hT : isTp v with
  | false =>
    refine se_when (b := true) (te_p (tp_or (a := true) (b := true) (tp_is (tp_not (a := isTp v) (by walk_at "tp")) (by rw [hT]; rfl)) (fun z => nomatch z))) (fun _ => se_no ?_) (fun z => nomatch z)
    cases v <;> first | rfl | cases hT
  | true =>
    cases v <;> first | cases hT | skip
    rename_i xs
    by_cases h3 : xs.length = 3
    · obtain ⟨l, k, p, rfl⟩ : ∃ l k p, xs = [l, k, p] := by
        match xs, h3 with
        | [l, k, p], _ => exact ⟨l, k, p, rfl⟩
      obtain ⟨hl, hk, hp⟩ : okS l = true ∧ (tyD k).isSome = true ∧ okP p = true := by
        have h := ho
        simp only [okG, Bool.and_eq_true] at h
        exact h
      have hpt := okP_ty hp
      have e0 : ∀ {en : En}, en[0]? = some (.d (.tup [l, k, p])) → Ep P w K (tOp (rIxT K) (tVar 0) (tC (.int 0))) en l := fun h => ep_op (ep_var h) ep_int (itm (i := 0) rfl)
      have e1 : ∀ {en : En}, en[0]? = some (.d (.tup [l, k, p])) → Ep P w K (tOp (rIxT K) (tVar 0) (tC (.int 1))) en k := fun h => ep_op (ep_var h) ep_int (itm (i := 1) rfl)
      have e2 : ∀ {en : En}, en[0]? = some (.d (.tup [l, k, p])) → Ep P w K (tOp (rIxT K) (tVar 0) (tC (.int 2))) en p := fun h => ep_op (ep_var h) ep_int (itm (i := 2) rfl)
      refine se_when (b := !isName l || !isTp p) (te_p ?_) (fun hb => se_no ?_) (fun hb => ?_)
      · refine tp_is (tp_or (a := false) (b := !isName l || !isTp p) (tp_is (tp_not (a := true) ?_) rfl) fun _ => ?_) rfl
        · walk_at "tp"
        · refine tp_is (tp_or (a := !decide ((3 : Int) = 3)) (b := !isName l || !isTp p) ?_ fun _ => ?_) rfl
          · exact tp_test (ep_op (ep_cb (ap_cons ep_var ap_nil) rl_lenT) ep_int r2_neI)
          · refine tp_or (tp_not (tp_B (ep_call (ap_cons (e0 rfl) ap_nil) ⟨l, rfl, hl, rfl⟩))) fun _ => ?_
            exact tp_not (tp_B (ep_cb (ap_cons (e2 rfl) (ap_cons ep_ty ap_nil)) (rl_isTup hpt)))
      · simp only [Bool.or_eq_true, Bool.not_eq_true'] at hb
        unfold isGate
        split
        · rename_i e
          cases e
          rcases hb with hb | hb
          · rw [hb]; simp
          · cases hb
        · rfl
      · simp only [Bool.or_eq_false_iff, Bool.not_eq_false'] at hb
        obtain ⟨hn, hb⟩ := hb
        obtain ⟨ps, rfl⟩ : ∃ x, p = .tup x := by cases p <;> first | exact ⟨_, rfl⟩ | cases hb
        obtain ⟨hp1, hp2⟩ : decide (ps.length ≤ 30000) = true ∧ ps.all okS = true := by
          have h := hp
          simp only [okP, Bool.and_eq_true] at h
          exact h
        have hp1 := of_decide_eq_true hp1
        refine se_when (b := !ps.all isName) (te_p (tp_not (tp_B (ep_is (ep_cb (ap_cons (ep_is (ep_new (np_map (ip_tup (e2 rfl)) (by omega) (fun d => .bl (isName d)) fun d hd => ep_call (ap_cons ep_var ap_nil) ⟨d, rfl, List.all_eq_true.mp hp2 d hd, rfl⟩)) (e := .lst ((ps.map isName).map .bl)) (by rw [List.map_map]; rfl)) ap_nil) rl_all) (by rw [List.all_map]; rfl))))) (fun hb => se_no ?_) (fun hb => ?_)
        · have hb : ps.all isName = false := by simpa using hb
          unfold isGate
          split
          · rename_i e
            cases e
            rw [hb]; simp
          · rfl
        · have hb : ps.all isName = true := by simpa using hb
          have hlen : ∀ {en : En}, en[0]? = some (.d (.tup [l, k, .tup ps])) → Ep P w K (tCB (rLenS K) (tCons (tOp (rIxT K) (tVar 0) (tC (.int 2))) tNil)) en (.int ps.length) := fun h => ep_cb (ap_cons (e2 h) ap_nil) rl_lenT
          cases hS : isS k with
          | false =>
            obtain rfl : k = .non := by
              cases k <;> first | rfl | exact absurd (show false = true from hL) Bool.false_ne_true | exact absurd (show true = false from hS) (fun z => nomatch z)
            refine se_when (b := false) (te_p (tp_test (ep_op (e1 rfl) (by walk_at "ep") (in_non ["not", "buf"])))) (fun z => nomatch z) (fun _ => ?_)
            refine se_when (b := false) (te_p (tp_test (ep_op (e1 rfl) (by walk_at "ep") (in_non ["low", "high"])))) (fun z => nomatch z) (fun _ => ?_)
            exact se_ret (ee_p (ep_is (ep_and (a := false) (b := true) (ep_op (e1 rfl) (by walk_at "ep") (in_non ["and", "or", "nand", "nor", "xor", "xnor"])) (fun z => nomatch z)) rfl))
          | true =>
            obtain ⟨k, rfl⟩ : ∃ x, k = .str x := by cases k <;> first | exact ⟨_, rfl⟩ | cases hS
            have hm := may_law k ps.length
            have hG : isGate (.tup [l, .str k, .tup ps]) = (decide (k ∈ KIN) && mayHave k ps.length) := by
              show (decide (k ∈ KIN) && (mayHave k ps.length && (isName l && ps.all isName))) = _
              rw [hn, hb]
              simp
            rw [hG, hm]
            refine se_when (b := decide (k ∈ (["not", "buf"] : List Str))) (te_p (tp_test (ep_op (e1 rfl) (by walk_at "ep") (in_strs k ["not", "buf"])))) (fun hb => ?_) (fun hb => ?_)
            · rw [if_pos (of_decide_eq_true hb)]
              exact se_seqF (se_ret (ee_p (ep_op (hlen rfl) ep_int r2_eqI)))
            · rw [if_neg (of_decide_eq_false hb)]
              refine se_when (b := decide (k ∈ (["low", "high"] : List Str))) (te_p (tp_test (ep_op (e1 rfl) (by walk_at "ep") (in_strs k ["low", "high"])))) (fun hb => ?_) (fun hb => ?_)
              · rw [if_pos (of_decide_eq_true hb)]
                exact se_seqF (se_ret (ee_p (ep_op (hlen rfl) ep_int r2_eqI)))
              · rw [if_neg (of_decide_eq_false hb)]
                exact se_ret (ee_p (ep_and (ep_op (e1 rfl) (by walk_at "ep") (in_strs k ["and", "or", "nand", "nor", "xor", "xnor"])) fun _ => ep_chain ep_int (hlen rfl) r2_B0 (fun _ => ep_int) (fun _ => r2_B0)))
    · have hne : (!decide ((xs.length : Int) = 3)) = true := by rw [decide_eq_false (show ¬ (xs.length : Int) = 3 by omega)]; rfl
      refine se_when (b := true) (te_p ?_) (fun _ => se_no ?_) (fun z => nomatch z)
      · refine tp_is (tp_or (a := false) (b := true) (tp_is (tp_not (a := true) ?_) rfl) fun _ => ?_) rfl
        · walk_at "tp"
        · refine tp_is (tp_or (a := !decide ((xs.length : Int) = 3)) (b := true) ?_ fun h => ?_) (by rw [hne]; rfl)
          · exact tp_test (ep_op (ep_cb (ap_cons ep_var ap_nil) rl_lenT) ep_int r2_neI)
          · rw [hne] at h
            cases h
      unfold isGate
      split
      · rename_i e
        cases e
        exact absurd rfl h3
      · rfl
end
end CC

set_option maxHeartbeats 400000
namespace CC
open PySem PySem.Spec PyProof.Rows L2 Qw
open Evl hiding ea_cons
open Pw (Dt Rp RpL Wk R2d R1d RLd RLn Kq KqL truD flatD fl py pyL rangeD charsD spX2 Xm Xm0 tyD isI isB isS isTp isL rl_isInt rl_isBool rl_isStr rl_isTup rl_isList rl_int rl_max2 rl_min2 rl_len rl_lenT rl_tup rl_tupT rl_lenS rl_all rl_any rn_list rn_listT r2_I0 r2_B0 r2_eqI r2_neI r2_eqS r2_neS r2_eq r2_ne r2_I r2_inS r2_niS r2_in r2_inT r2_ixL r2_ixT r2_ixS r2_addS r2_eqD r2_neD r2_ixM r1_U ixN_at itemD cr_int cr_min2 cr_max2 cr_list cr_tuple cr_len pe_globI pe_globS pe_globR pe_tyname rTupS rInt1 rMin2)
local macro_rules | `(tactic| walk_at "side") => `(tactic| first
  | decide | omega | assumption | (show (0 : Int) < _; omega) | exact (show CDiv _ _ from ⟨by omega, by omega⟩) | exact (show CMul _ _ from Or.inr ⟨by omega, by omega⟩) | exact (show CMul _ _ from Or.inl ⟨by omega, by omega⟩) | exact (show CPow _ _ from ⟨by decide, by decide, by decide⟩))
local macro_rules | `(tactic| walk_at "op") => `(tactic| first
  | exact r2_I0 | exact r2_B0 | exact r2_eqI | exact r2_neI | exact r2_eqS | exact r2_neS
  | exact r2_eq rfl rfl rfl | exact r2_ne rfl rfl rfl
  | (refine' r2_I ?_; walk_at "side") | exact r2_inS | exact r2_niS)
local macro_rules | `(tactic| walk_at "rl") => `(tactic| first
  | exact rl_int | exact rl_max2 | exact rl_min2 | exact rl_len | exact rl_lenT | exact rl_isInt (by first | rfl | assumption) | exact rl_isBool (by first | rfl | assumption) | exact rl_isStr (by first | rfl | assumption) | exact rl_isTup (by first | rfl | assumption) | exact rl_isList (by first | rfl | assumption) | exact rl_tup | exact rl_tupT | (refine' rl_lenS ?_; walk_at "side"))
local macro_rules | `(tactic| walk_at "ap") => `(tactic| first
  | exact ap_nil
  | (refine' ap_cons ?eah ?eat; (case eah => walk_at "ep"); (case eat => walk_at "ap")))
local macro_rules | `(tactic| walk_at "ep") => `(tactic| first
  | exact ep_int | exact ep_bl | exact ep_str | exact ep_non | exact ep_ty | exact ep_var
  | (refine' ep_op ?eva ?evb ?evc; (case eva => walk_at "ep"); (case evb => walk_at "ep"); (case evc => walk_at "op"))
  | (refine' ep_cb ?evd ?eve; (case evd => walk_at "ap"); (case eve => walk_at "rl"))
  | (refine' ep_un ?evf r1_U; (case evf => walk_at "ep"))
  | (refine' ep_tup ?evg ?evi; (case evg => walk_at "ap"); (case evi => exact Nat.le_of_ble_eq_true rfl))
  | (refine' ep_lst ?evh ?evj; (case evh => walk_at "ap"); (case evj => exact Nat.le_of_ble_eq_true rfl))
  | assumption)
local macro_rules | `(tactic| walk_at "ee") => `(tactic| (refine' ee_p ?eep; (case eep => walk_at "ep")))
local macro_rules | `(tactic| walk_at "te") => `(tactic| (refine' te_p ?tep; (case tep => walk_at "tp")))
local macro_rules | `(tactic| walk_at "tp") => `(tactic| first
  | (refine' tp_test ?tea; (case tea => walk_at "ep"))
  | (refine' tp_B ?teb; (case teb => walk_at "ep"))
  | (refine' tp_not ?tec; (case tec => walk_at "tp"))
  | (refine' tp_or ?ted ?tee; (case ted => walk_at "tp"); (case tee => intro _; walk_at "tp"))
  | (refine' tp_and ?tef ?teg; (case tef => walk_at "tp"); (case teg => intro _; walk_at "tp"))
  | assumption)
section
variable {P : Program} {w : World} {K : PySem.W.Frag} {mg : Str → Option Value} {base : Heap}

/-! ### forms, told -/
structure Q4 (is rs gs os : List Dt) : Prop where
  z : is.length ≤ 1000 ∧ rs.length ≤ 1000 ∧ gs.length ≤ 1000 ∧ os.length ≤ 1000
  i : is.all okS = true
  r : rs.all okR = true
  g : gs.all okL = true
  o : os.all okS = true
def p4 (is rs gs os : List Dt) : Dt := .tup [.lst is, .lst rs, .lst gs, .lst os]
theorem all_G {gs : List Dt} (h : gs.all okL = true) : gs.all okG = true := List.all_eq_true.mpr fun d hd => okL_G (List.all_eq_true.mp h d hd)
def R_law_forms (ds : List Dt) (r : Rs) : Prop := ∃ is rs gs os, ds = [p4 is rs gs os] ∧ Q4 is rs gs os ∧ r = .d (.bl (formOk is rs gs os))
theorem l_law_forms (ds : List Dt) (r : Rs) (h : R_law_forms ds r) : ds.length = 1 := by
  obtain ⟨_, _, _, _, rfl, _⟩ := h
  rfl
theorem isReg_two {a b : Dt} : isReg (.tup [a, b]) = (isName a && isName b) := by
  show (decide (2 = 2) && (isName a && (isName b && true))) = _
  simp
theorem find_all {α : Type} (p : α → Bool) (l : List α) : (l.find? fun a => !p a) = none ↔ l.all p = true := by
  rw [List.find?_eq_none, List.all_eq_true]
  simp
abbrev s_law_forms : Stmt := top 33
abbrev N_law_forms : List Str := ["parts", "inputs", "registers", "gates", "outputs", "row", "name", "gate"]
theorem sc_law_forms : FnScope N_law_forms ["parts"] (defScope s_law_forms) := ⟨rfl, rfl, rfl, by decide +kernel, rfl, by decide +kernel, by decide +kernel⟩
theorem k_law_forms (T : Txt K mg) (D : Dx K mg "_law_forms" ["parts"] s_law_forms)  (G__law_is_name : Fx P w K mg base 1 "_law_is_name" ["word"] (spR P w K R_law_is_name)) (G__law_is_gate : Fx P w K mg base 2 "_law_is_gate" ["gate"] (spR P w K R_law_is_gate)) : Fx P w K mg base 3 "_law_forms" ["parts"] (spR P w K R_law_forms) := by
  refine Fx.of D sc_law_forms (l_law_forms) fun f cdv A outer s H E hr => ?_
  refine ⟨_, (pss_cons (ps_asg (pv 0) (pg_tup rfl (pgs_cons (pgn (i := 1) sc_law_forms.nd) (pgs_cons (pgn (i := 2) sc_law_forms.nd) (pgs_cons (pgn (i := 3) sc_law_forms.nd) (pgs_cons (pgn (i := 4) sc_law_forms.nd) pgs_nil))))))
      (pss_cons (ps_for PassesOwn.never rfl (pi_list (pv 2)) (pgn (i := 5) sc_law_forms.nd)
      (pss_one (ps_if (PW.pt (pw_or (pt_not (pt_val (pe_callB call_isi (by rfl) T.f_isinstance (by decide +kernel) (pa_cons (pv 5) (pa_cons (pe_tyname (n := "tuple") T.f_tuple) pa_nil))))) (pw_or (pt_cmpR op_ne (pe_callB cr_len (by rfl) T.f_len PySem.boot_len (pa_cons (pv 5) pa_nil)) pe_int (nomark _)) (pw_or (pt_not (pt_val (pe_fx G__law_is_name (hr.mono (by decide)) (pa_cons (pe_ix ix_tup (pv 5) pe_int (fun _ _ => rfl)) pa_nil)))) (pw_or1 (pt_not (pt_val (pe_fx G__law_is_name (hr.mono (by decide)) (pa_cons (pe_ix ix_tup (pv 5) pe_int (fun _ _ => rfl)) pa_nil))))))))) (pss_one (ps_ret pe_bl)) pss_nil)))
      (pss_one (ps_ret (pe_and (pe_callB (cr_all rfl) (by rfl) T.f_all (by decide +kernel) (pa_cons (pe_lc (own := [("name", 6)]) (g := gName 6) (tt := tYes) rfl sc_law_forms.nd (pi_list (pe_op op_catS (pv 1) (pv 4))) (blkOk_by (N := N_law_forms) (sc := defScope s_law_forms) (by decide +kernel)) (fun _ _ _ _ _ => (pgn (i := 6) sc_law_forms.nd)) (fun _ _ _ _ _ => pts_nil) (fun _ _ _ _ _ => (pe_fx G__law_is_name (hr.mono (by decide)) (pa_cons (pv 6) pa_nil)))) pa_nil)) (pe_one (pe_callB (cr_all rfl) (by rfl) T.f_all (by decide +kernel) (pa_cons (pe_lc (own := [("gate", 7)]) (g := gName 7) (tt := tYes) rfl sc_law_forms.nd (pi_list (pv 3)) (blkOk_by (N := N_law_forms) (sc := defScope s_law_forms) (by decide +kernel)) (fun _ _ _ _ _ => (pgn (i := 7) sc_law_forms.nd)) (fun _ _ _ _ _ => pts_nil) (fun _ _ _ _ _ => (pe_fx G__law_is_gate (hr.mono (by decide)) (pa_cons (pv 7) pa_nil)))) pa_nil)))))))), ?_⟩
  rintro ds r ⟨is, rs, gs, os, rfl, q, rfl⟩
  left
  show Se P w K _ [.d (p4 is rs gs os), .u, .u, .u, .u, .u, .u, .u] _
  obtain ⟨z1, z2, z3, z4⟩ := q.z
  refine se_seq (se_asgG (ee_p ep_var) (ge_tup (gs_cons ge_name (gs_cons ge_name (gs_cons ge_name (gs_cons ge_name gs_nil)))))) ?_
  show Se P w K _ [.d (p4 is rs gs os), .d (.lst is), .d (.lst rs), .d (.lst gs), .d (.lst os), .u, .u, .u] _
  refine se_first rs (fun d => d) (fun d => !isReg d) (fun _ => .bl false) (by rw [List.map_id']; exact ip_list ep_var) [.d (p4 is rs gs os), .d (.lst is), .d (.lst rs), .d (.lst gs), .d (.lst os), .x, .u, .u] (Le.s (Le.s (Le.s (Le.s (Le.s (Le.x (Le.s (Le.s Le.nil)))))))) (fun d hd => ⟨_, ge_name, ?_⟩) (fun hn => ?_) (fun d hd => ?_)
  · have ho := List.all_eq_true.mp q.r d hd
    have ht := okR_ty ho
    have key : Tp P w K (tOr (tNot (tB (tCB (rIsi K) (tCons (tVar 5) (tCons (tC (.ty "tuple")) tNil))))) (tOr (tTest (tOp rNe (tCB (rLenS K) (tCons (tVar 5) tNil)) (tC (.int 2)))) (tOr (tNot (tB (tCall (spR P w K R_law_is_name) [] E0 (tCons (tOp (rIxT K) (tVar 5) (tC (.int 0))) tNil)))) (tNot (tB (tCall (spR P w K R_law_is_name) [] E0 (tCons (tOp (rIxT K) (tVar 5) (tC (.int 1))) tNil))))))) [.d (p4 is rs gs os), .d (.lst is), .d (.lst rs), .d (.lst gs), .d (.lst os), .d d, .u, .u] (!isReg d) := by
      cases hT : isTp d with
      | false =>
        refine tp_is (tp_or (a := true) (b := true) (tp_is (tp_not (a := isTp d) (by walk_at "tp")) (by rw [hT]; rfl)) (fun z => nomatch z)) ?_
        cases d <;> first | rfl | cases hT
      | true =>
        obtain ⟨xs, rfl⟩ : ∃ x, d = .tup x := by cases d <;> first | exact ⟨_, rfl⟩ | cases hT
        refine tp_is (tp_or (a := false) (b := !isReg (.tup xs)) (tp_is (tp_not (a := true) (by walk_at "tp")) rfl) fun _ => ?_) rfl
        by_cases h2 : xs.length = 2
        · obtain ⟨a, b, rfl⟩ : ∃ a b, xs = [a, b] := by
            match xs, h2 with
            | [a, b], _ => exact ⟨a, b, rfl⟩
          obtain ⟨oa, ob⟩ : okS a = true ∧ okS b = true := by
            have h : (decide (([a, b] : List Dt).length ≤ 40000) && (okS a && (okS b && true))) = true := ho
            simp only [Bool.and_eq_true] at h
            exact ⟨h.2.1, h.2.2.1⟩
          refine tp_is (tp_or (a := !decide ((2 : Int) = 2)) (b := !isName a || !isName b) (tp_test (ep_op (ep_cb (ap_cons ep_var ap_nil) rl_lenT) ep_int r2_neI)) fun _ => tp_or (tp_not (tp_B (ep_call (ap_cons (ep_op ep_var ep_int (itm (i := 0) rfl)) ap_nil) ⟨a, rfl, oa, rfl⟩))) fun _ => tp_not (tp_B (ep_call (ap_cons (ep_op ep_var ep_int (itm (i := 1) rfl)) ap_nil) ⟨b, rfl, ob, rfl⟩))) ?_
          rw [isReg_two]
          cases isName a <;> cases isName b <;> rfl
        · have hne : (!decide ((xs.length : Int) = 2)) = true := by rw [decide_eq_false (show ¬ (xs.length : Int) = 2 by omega)]; rfl
          refine tp_is (tp_or (a := !decide ((xs.length : Int) = 2)) (b := true) (tp_test (ep_op (ep_cb (ap_cons ep_var ap_nil) rl_lenT) ep_int r2_neI)) fun h => ?_) ?_
          · rw [hne] at h
            cases h
          · rw [hne]
            show true = !(decide (xs.length = 2) && xs.all isName)
            rw [decide_eq_false h2]
            rfl
    refine ⟨fun hb => ?_, fun hb => ?_⟩
    · exact se_if (b := !isReg d) (te_p key) (fun _ => se_ret (ee_p ep_bl)) (fun z => by rw [hb] at z; cases z)
    · exact se_nc (se_le (se_if (b := !isReg d) (te_p key) (fun z => by rw [hb] at z; cases z) (fun _ => se_next)) (Le.s (Le.s (Le.s (Le.s (Le.s (Le.x (Le.s (Le.s Le.nil)))))))))
  · have hr : rs.all isReg = true := (find_all isReg rs).mp hn
    have hno : (is ++ os).all okS = true := by rw [List.all_append, q.i, q.o]; rfl
    refine se_ret (ee_p (ep_is (ep_and (a := (is ++ os).all isName) (b := gs.all isGate) (ep_is (ep_cb (ap_cons (ep_is (ep_new (np_map (ip_list (ep_op ep_var ep_var (r2_cat (by omega)))) (by rw [List.length_append]; omega) (fun d => .bl (isName d)) fun d hd => ep_call (ap_cons ep_var ap_nil) ⟨d, rfl, List.all_eq_true.mp hno d hd, rfl⟩)) (e := .lst (((is ++ os).map isName).map .bl)) (by rw [List.map_map]; rfl)) ap_nil) rl_all) (by rw [List.all_map]; rfl)) fun _ => ep_is (ep_cb (ap_cons (ep_is (ep_new (np_map (ip_list ep_var) (by omega) (fun d => .bl (isGate d)) fun d hd => ep_call (ap_cons ep_var ap_nil) ⟨d, rfl, List.all_eq_true.mp q.g d hd, rfl⟩)) (e := .lst ((gs.map isGate).map .bl)) (by rw [List.map_map]; rfl)) ap_nil) rl_all) (by rw [List.all_map]; rfl)) ?_))
    unfold formOk
    rw [hr, List.all_append]
    cases is.all isName <;> cases os.all isName <;> rfl
  · have hr : rs.all isReg = false := by
      cases h : rs.all isReg with
      | false => rfl
      | true =>
        rw [(find_all isReg rs).mpr h] at hd
        cases hd
    unfold formOk
    rw [hr]
    simp
end
section
variable {P : Program} {w : World} {K : PySem.W.Frag} {mg : Str → Option Value} {base : Heap}
def toldD : Ri → Dt
  | .f _ _ => .non
  | .x y => match y.ds with
    | [n, r] => .tup [r, n]
    | _ => .non
def R_law_told (K : PySem.W.Frag) (ds : List Dt) (r : Rs) : Prop := ∃ is rs gs os ri, ds = [p4 is rs gs os] ∧ R_Circuit_init K [.lst is, .lst rs, .lst gs, .lst os] ri ∧ r = .d (toldD ri)
theorem l_law_told (K : PySem.W.Frag) (ds : List Dt) (r : Rs) (h : R_law_told K ds r) : ds.length = 1 := by
  obtain ⟨_, _, _, _, _, rfl, _⟩ := h
  rfl
theorem initR_cases (K : PySem.W.Frag) (c : Cp) : (∃ es, initR K c = .f CF es) ∨ ∃ a b, initR K c = .x (badC K a b) := by
  unfold initR
  cases dupOf [] (linesOf c.is c.rs c.gs) with
  | some x => exact .inr ⟨_, _, rfl⟩
  | none =>
    cases (usesOf c).find? fun y => !decide (y ∈ linesOf c.is c.rs c.gs) with
    | some x => exact .inr ⟨_, _, rfl⟩
    | none =>
      show (∃ es, sizeI K c = .f CF es) ∨ ∃ a b, sizeI K c = .x (badC K a b)
      unfold sizeI
      split
      · cases order (srcOf c.is c.rs) c.gs with
        | ok l => exact .inl ⟨_, rfl⟩
        | error x => exact .inr ⟨_, _, rfl⟩
      · exact .inr ⟨_, _, rfl⟩
theorem init_cases {K : PySem.W.Frag} {ds : List Dt} {ri : Ri} (h : R_Circuit_init K ds ri) : (∃ es, ri = .f CF es) ∨ ∃ a b, ri = .x (badC K a b) := by
  obtain ⟨_, _, _, _, _, _, _, _, _, _, _, _, h⟩ := h
  rcases h with ⟨_, rfl⟩ | ⟨_, c, _, _, _, _, _, rfl⟩
  · exact .inr ⟨_, _, rfl⟩
  · exact initR_cases K c
abbrev s_law_told : Stmt := top 35
abbrev N_law_told : List Str := ["parts", "e"]
theorem sc_law_told : FnScope N_law_told ["parts"] (defScope s_law_told) := ⟨rfl, rfl, rfl, by decide +kernel, rfl, by decide +kernel, by decide +kernel⟩
theorem k_law_told (T : Txt K mg) (D : Dx K mg "_law_told" ["parts"] s_law_told)  (I_Circuit : Ix P w K mg base 5 (He.ga K "Circuit") "Circuit" ["self", "inputs", "registers", "gates", "outputs"] (spI P w K (He.ga K "Circuit") (R_Circuit_init K))) : Fx P w K mg base 7 "_law_told" ["parts"] (spR P w K (R_law_told K)) := by
  refine Fx.of D sc_law_told (l_law_told K) fun f cdv A outer s H E hr => ?_
  refine ⟨_, (pss_cons (ps_try_as (i := 1) rfl rfl sc_law_told.nd rfl rfl ⟨rfl, by decide, .inl T.c_BadCircuit⟩ takes0 (fun W pn xe tk1 _ => (pss_one (ps_expr (pe_ixS I_Circuit (hr.mono (by decide)) tk1 (pa_cons (pe_ix (show IxR _ (rIxT K) from ix_tup) (pv 0) pe_int (fun _ _ => rfl)) (pa_cons (pe_ix (show IxR _ (rIxT K) from ix_tup) (pv 0) pe_int (fun _ _ => rfl)) (pa_cons (pe_ix (show IxR _ (rIxT K) from ix_tup) (pv 0) pe_int (fun _ _ => rfl)) (pa_cons (pe_ix (show IxR _ (rIxT K) from ix_tup) (pv 0) pe_int (fun _ _ => rfl)) pa_nil)))))))) (fun a oe cls d pn hz hf => (pss_one (ps_ret (pe_tup (pa_cons (pe_xf T.x_BadCircuit T.n_reason hz hf (pv 1)) (pa_cons (pe_xf T.x_BadCircuit T.n_name hz hf (pv 1)) pa_nil)))))))
      (pss_one (ps_ret pe_non))), ?_⟩
  rintro ds r ⟨is, rs, gs, os, ri, rfl, hri, rfl⟩
  left
  show Se P w K _ [.d (p4 is rs gs os), .u] _
  have hA : EpA P w K (tCons (tOp (rIxT K) (tVar 0) (tC (.int 0))) (tCons (tOp (rIxT K) (tVar 0) (tC (.int 1))) (tCons (tOp (rIxT K) (tVar 0) (tC (.int 2))) (tCons (tOp (rIxT K) (tVar 0) (tC (.int 3))) tNil)))) [.d (p4 is rs gs os), .u] [.lst is, .lst rs, .lst gs, .lst os] :=
    ap_cons (ep_op ep_var ep_int (itm (i := 0) rfl)) (ap_cons (ep_op ep_var ep_int (itm (i := 1) rfl)) (ap_cons (ep_op ep_var ep_int (itm (i := 2) rfl)) (ap_cons (ep_op ep_var ep_int (itm (i := 3) rfl)) ap_nil)))
  rcases init_cases hri with ⟨es, rfl⟩ | ⟨a, b, rfl⟩
  · refine se_seq (env1 := [.d (p4 is rs gs os), .u]) (se_try (fun W => tDrop (tMakeS (He.ga K "Circuit") (spI P w K (He.ga K "Circuit") (R_Circuit_init K)) (WE W) (tCons (tOp (rIxT K) (tVar 0) (tC (.int 0))) (tCons (tOp (rIxT K) (tVar 0) (tC (.int 1))) (tCons (tOp (rIxT K) (tVar 0) (tC (.int 2))) (tCons (tOp (rIxT K) (tVar 0) (tC (.int 3))) tNil)))))) fun W => se_drop (ee_p (po_dt (po_makeS hA hri) rfl))) (se_ret (ee_p ep_non))
  · refine se_seqF (se_try_as (tb := fun W => tDrop (tMakeS (He.ga K "Circuit") (spI P w K (He.ga K "Circuit") (R_Circuit_init K)) (WE W) (tCons (tOp (rIxT K) (tVar 0) (tC (.int 0))) (tCons (tOp (rIxT K) (tVar 0) (tC (.int 1))) (tCons (tOp (rIxT K) (tVar 0) (tC (.int 2))) (tCons (tOp (rIxT K) (tVar 0) (tC (.int 3))) tNil)))))) (x := badC K a b) (e1 := [.d (p4 is rs gs os), .u]) (e2 := []) (o := .rt (.tup [.str a, .str b])) (fun W => se_dropX (er_makeS hA hri)) T.e_BadCircuit (fun ad od => se_ret (ee_p (ep_tup (ap_cons (ep_xf rfl rfl rfl) (ap_cons (ep_xf rfl rfl rfl) ap_nil))))) (.inl ⟨_, rfl⟩) (show 1 < 2 by decide))
end
end CC

set_option maxHeartbeats 400000
namespace CC
open PySem PySem.Spec PyProof.Rows L2 Qw
open Evl hiding ea_cons
open Pw (Dt Rp RpL Wk R2d R1d RLd RLn Kq KqL truD flatD fl py pyL rangeD charsD spX2 Xm Xm0 tyD isI isB isS isTp isL rl_isInt rl_isBool rl_isStr rl_isTup rl_isList rl_int rl_max2 rl_min2 rl_len rl_lenT rl_tup rl_tupT rl_lenS rl_all rl_any rn_list rn_listT r2_I0 r2_B0 r2_eqI r2_neI r2_eqS r2_neS r2_eq r2_ne r2_I r2_inS r2_niS r2_in r2_inT r2_ixL r2_ixT r2_ixS r2_addS r2_eqD r2_neD r2_ixM r1_U ixN_at itemD cr_int cr_min2 cr_max2 cr_list cr_tuple cr_len pe_globI pe_globS pe_globR pe_tyname rTupS rInt1 rMin2)
local macro_rules | `(tactic| walk_at "side") => `(tactic| first
  | decide | omega | assumption | (show (0 : Int) < _; omega) | exact (show CDiv _ _ from ⟨by omega, by omega⟩) | exact (show CMul _ _ from Or.inr ⟨by omega, by omega⟩) | exact (show CMul _ _ from Or.inl ⟨by omega, by omega⟩) | exact (show CPow _ _ from ⟨by decide, by decide, by decide⟩))
local macro_rules | `(tactic| walk_at "op") => `(tactic| first
  | exact r2_I0 | exact r2_B0 | exact r2_eqI | exact r2_neI | exact r2_eqS | exact r2_neS
  | exact r2_eq rfl rfl rfl | exact r2_ne rfl rfl rfl
  | (refine' r2_I ?_; walk_at "side") | exact r2_inS | exact r2_niS)
local macro_rules | `(tactic| walk_at "rl") => `(tactic| first
  | exact rl_int | exact rl_max2 | exact rl_min2 | exact rl_len | exact rl_lenT | exact rl_isInt (by first | rfl | assumption) | exact rl_isBool (by first | rfl | assumption) | exact rl_isStr (by first | rfl | assumption) | exact rl_isTup (by first | rfl | assumption) | exact rl_isList (by first | rfl | assumption) | exact rl_tup | exact rl_tupT | (refine' rl_lenS ?_; walk_at "side"))
local macro_rules | `(tactic| walk_at "ap") => `(tactic| first
  | exact ap_nil
  | (refine' ap_cons ?eah ?eat; (case eah => walk_at "ep"); (case eat => walk_at "ap")))
local macro_rules | `(tactic| walk_at "ep") => `(tactic| first
  | exact ep_int | exact ep_bl | exact ep_str | exact ep_non | exact ep_ty | exact ep_var
  | (refine' ep_op ?eva ?evb ?evc; (case eva => walk_at "ep"); (case evb => walk_at "ep"); (case evc => walk_at "op"))
  | (refine' ep_cb ?evd ?eve; (case evd => walk_at "ap"); (case eve => walk_at "rl"))
  | (refine' ep_un ?evf r1_U; (case evf => walk_at "ep"))
  | (refine' ep_tup ?evg ?evi; (case evg => walk_at "ap"); (case evi => exact Nat.le_of_ble_eq_true rfl))
  | (refine' ep_lst ?evh ?evj; (case evh => walk_at "ap"); (case evj => exact Nat.le_of_ble_eq_true rfl))
  | assumption)
local macro_rules | `(tactic| walk_at "ee") => `(tactic| (refine' ee_p ?eep; (case eep => walk_at "ep")))
local macro_rules | `(tactic| walk_at "te") => `(tactic| (refine' te_p ?tep; (case tep => walk_at "tp")))
local macro_rules | `(tactic| walk_at "tp") => `(tactic| first
  | (refine' tp_test ?tea; (case tea => walk_at "ep"))
  | (refine' tp_B ?teb; (case teb => walk_at "ep"))
  | (refine' tp_not ?tec; (case tec => walk_at "tp"))
  | (refine' tp_or ?ted ?tee; (case ted => walk_at "tp"); (case tee => intro _; walk_at "tp"))
  | (refine' tp_and ?tef ?teg; (case tef => walk_at "tp"); (case teg => intro _; walk_at "tp"))
  | assumption)
section
variable {P : Program} {w : World} {K : PySem.W.Frag} {mg : Str → Option Value} {base : Heap}

/-! ### the law's changes -/
def lit (l : List Dt) (r : Int) : Dt := l.getD (r % (l.length : Int)).toNat .non
structure Ch where
  IS : List Dt
  RS : List Dt
  GS : List Dt
  OS : List Dt
def Ch.d (h : Ch) : Dt := p4 h.IS h.RS h.GS h.OS
def Cp.ch (c : Cp) : Ch := ⟨c.is.map .str, c.rs.map regD, c.gs.map Gt.d, c.os.map .str⟩
def gAtC (c : Cp) (r : Int) : Gt := c.gs.getD (r / 11 % (c.gs.length : Int)).toNat ⟨"", "", []⟩
def gsub (c : Cp) (r : Int) (X : Dt) : List Dt := ((c.gs.map Gt.d).take (r / 11 % (c.gs.length : Int)).toNat ++ [X]) ++ (c.gs.map Gt.d).drop ((r / 11 % (c.gs.length : Int)).toNat + 1)
def othC (c : Cp) (r : Int) : Str := pick (linesOf c.is c.rs c.gs) (r / 11 / 7)
def chg (c : Cp) (r : Int) : Ch :=
  if r % 11 = 0 then { c.ch with IS := c.ch.IS ++ [lit [.str "A", .str "", .non, .str (Txt.mul "x" 13), .str (othC c r)] (r / 11 / 7)] }
  else if r % 11 = 1 then { c.ch with RS := c.ch.RS ++ [lit [.tup [.str "q9"], .tup [.str "q9", .str "Z"], .lst [.str "q9", .str "a"], .tup [.str (othC c r), .str "a"], .tup [.str "q9", .str "zz"]] (r / 11 / 7)] }
  else if r % 11 = 2 then { c.ch with OS := c.ch.OS ++ [lit [.str "", .str "zz", .str "a b", .non, .str "a"] (r / 11 / 7)] }
  else if r % 11 = 3 then { c.ch with GS := gsub c r (.tup [.str (othC c r), .str (gAtC c r).k, .tup ((gAtC c r).ps.map .str)]) }
  else if r % 11 = 4 ∧ 0 < (gAtC c r).ps.length then { c.ch with GS := gsub c r (.tup [.str (gAtC c r).l, .str (gAtC c r).k, .tup (.str (othC c r) :: ((gAtC c r).ps.map .str).drop 1)]) }
  else if r % 11 = 5 then { c.ch with GS := gsub c r (.tup [.str (gAtC c r).l, .str (gAtC c r).k, .tup ((gAtC c r).ps.map .str ++ [.str "zz"])]) }
  else if r % 11 = 6 then { c.ch with GS := gsub c r (.tup [.str (gAtC c r).l, .str (gAtC c r).k, .tup ((gAtC c r).ps.map .str ++ [.str "a", .str "a", .str "a"])]) }
  else if r % 11 = 7 then { c.ch with GS := gsub c r (.tup [.str (gAtC c r).l, lit [.str "AND", .str "", .non, .str "not", .str "low", .str "xor"] (r / 11 / 7), .tup ((gAtC c r).ps.map .str)]) }
  else if r % 11 = 8 then { c.ch with GS := gsub c r (lit [.tup [.str (gAtC c r).l, .str (gAtC c r).k], .lst [.str (gAtC c r).l, .str (gAtC c r).k, .tup ((gAtC c r).ps.map .str)], .tup [.str (gAtC c r).l, .str (gAtC c r).k, .lst [.str "a"]], .non] (r / 11 / 7)) }
  else if r % 11 = 9 then { c.ch with IS := c.ch.IS.drop 1 }
  else c.ch
def R_law_changed (ds : List Dt) (r : Rs) : Prop := ∃ (c : Cp) (n : Int), ds = [c.ch.d, .int n] ∧ 0 ≤ n ∧ c.gs ≠ [] ∧ c.ok ∧ r = .d (chg c n).d
theorem l_law_changed (ds : List Dt) (r : Rs) (h : R_law_changed ds r) : ds.length = 2 := by
  obtain ⟨_, _, rfl, _⟩ := h
  rfl
theorem cut_tail (ds : List Dt) : Qw.cutD ds (some 1) none = ds.drop 1 := by
  unfold Qw.cutD
  have h1 : HT.sIx ds.length 0 (some 1) = min 1 ds.length := HT.sIx_nat ds.length 0 1
  rw [h1, HT.sIx_none]
  cases ds with
  | nil => rfl
  | cons a l =>
    have : min 1 (a :: l).length = 1 := by simp
    rw [this]
    simp
theorem cut_take2 (ds : List Dt) (k : Nat) (h : k ≤ ds.length) : Qw.cutD ds none (some (k : Int)) = ds.take k := cut_take ds k h
theorem cut_drop (ds : List Dt) (k : Nat) (h : k ≤ ds.length) : (ds.drop (HT.sIx ds.length 0 (some (k : Int)))).take (HT.sIx ds.length ds.length none - HT.sIx ds.length 0 (some (k : Int))) = ds.drop k := by
  rw [HT.sIx_nat, HT.sIx_none, Nat.min_eq_left h]
  rw [List.take_of_length_le (by simp)]
theorem ep_lit {env : En} {tl : TE} {l : List Dt} {q : Int} (n : Nat) (hl : Ep P w K tl env (.lst l)) (h7 : env[7]? = some (.d (.int q))) (hn : l.length = n + 1) : Ep P w K (tOp (rIxL K) tl (tOp (rI (fun _ j => 0 < j) fun i j => .int (i % j)) (tOp (rI CDiv fun i j => .int (i / j)) (tVar 7) (tC (.int 7))) (tC (.int ((n : Int) + 1))))) env (lit l (q / 7)) := by
  obtain ⟨j1, j2⟩ := lit_at (d := .non) (z := lit l (q / 7)) l (q / 7) n hn (by unfold lit; rw [hn]; rfl)
  refine ep_op hl (ep_op (ep_op (ep_var h7) ep_int (r2_I ?_)) ep_int (r2_I ?_)) (r2_ixL j1 j2)
  · exact (show CDiv _ _ from ⟨by omega, by omega⟩)
  · show (0 : Int) < _
    omega
theorem ep_gsub {env : En} {te : TE} {G : List Dt} {at' : Nat} {X : Dt} (h4 : env[4]? = some (.d (.lst G))) (h8 : env[8]? = some (.d (.int (at' : Int)))) (ha : at' < G.length) (hz : G.length ≤ 1000) (h : Ep P w K te env X) :
    Ep P w K (tOp (rCatR K) (tOp (rCatR K) (tSl (rSlL K) (tVar 4) tNoPart (tPart (tVar 8))) (tLst (tCons te tNil))) (tSl (rSlL K) (tVar 4) (tPart (tOp (rI0 fun i j => .int (i + j)) (tVar 8) (tC (.int 1)))) tNoPart)) env (.lst ((G.take at' ++ [X]) ++ G.drop (at' + 1))) := by
  refine ep_op (ep_op (d := .lst (G.take at')) (e := .lst [X]) (z := .lst (G.take at' ++ [X])) (ep_is (ep_new (np_slL (ep_var h4) qo_none (qo_some (ep_var h8)))) (by rw [cut_take _ _ (by omega)])) (ep_lst (ap_cons h ap_nil)) (r2_cat (by simp; omega))) (e := .lst (G.drop (at' + 1))) (ep_is (ep_new (np_slL (lo := some ((at' + 1 : Nat) : Int)) (ep_var h4) (qo_some (ep_is (ep_op (ep_var h8) ep_int r2_I0) (by simp))) qo_none)) (by rw [cut_drop _ _ (by omega)])) (r2_cat (by simp; omega))
theorem gat_at {c : Cp} (h : c.gs ≠ []) (r : Int) : (r / 11 % (c.gs.length : Int)).toNat < c.gs.length ∧ ((r / 11 % (c.gs.length : Int)).toNat : Int) = r / 11 % (c.gs.length : Int) := by
  have hl : 0 < c.gs.length := List.length_pos_iff.mpr h
  have h1 := Int.emod_nonneg (r / 11) (show (c.gs.length : Int) ≠ 0 by omega)
  have h2 := Int.emod_lt_of_pos (r / 11) (show (0 : Int) < c.gs.length by omega)
  omega
theorem gat_len {c : Cp} (h : c.gs ≠ []) (ok : c.ok) (r : Int) : (gAtC c r).ps.length ≤ 4 := by
  have h1 := (gat_at h r).1
  have : gAtC c r ∈ c.gs := List.mem_of_getElem? (itemD (l := c.gs) ⟨"", "", []⟩ h1)
  exact ok.2.2.2.2 _ this
theorem se_pick {env : En} {n : Int} {k : Int} {te : TE} {s2 : TS} {d : Dt} {o : Out} (h6 : env[6]? = some (.d (.int n))) (h1 : n = k → Ep P w K te env d) (h2 : n = k → o = .rt d) (h3 : n ≠ k → Se P w K s2 env o) : Se P w K (tSeq (tIfS (tTest (tOp rEq (tVar 6) (tC (.int k)))) (tRet te) tNext) s2) env o := by
  refine se_when (b := decide (n = k)) (te_p (tp_test (ep_op (ep_var h6) ep_int r2_eqI))) (fun hb => ?_) (fun hb => h3 (of_decide_eq_false hb))
  have hb := of_decide_eq_true hb
  rw [h2 hb]
  exact se_seqF (se_ret (ee_p (h1 hb)))
abbrev s_law_changed : Stmt := top 30
abbrev N_law_changed : List Str := ["parts", "rich", "inputs", "registers", "gates", "outputs", "choice", "rest", "at", "gate", "lines", "row", "other", "kind"]
theorem sc_law_changed : FnScope N_law_changed ["parts", "rich"] (defScope s_law_changed) := ⟨rfl, rfl, rfl, by decide +kernel, rfl, by decide +kernel, by decide +kernel⟩
theorem k_law_changed (T : Txt K mg) (D : Dx K mg "_law_changed" ["parts", "rich"] s_law_changed)  : Fx P w K mg base 1 "_law_changed" ["parts", "rich"] (spR P w K R_law_changed) := by
  refine Fx.of D sc_law_changed (l_law_changed) fun f cdv A outer s H E hr => ?_
  refine ⟨_, (pss_cons (ps_asg (pv 0) (pg_tup rfl (pgs_cons (pgn (i := 2) sc_law_changed.nd) (pgs_cons (pgn (i := 3) sc_law_changed.nd) (pgs_cons (pgn (i := 4) sc_law_changed.nd) (pgs_cons (pgn (i := 5) sc_law_changed.nd) pgs_nil))))))
      (pss_cons (pset (i := 6) sc_law_changed.nd (pe_op op_mod (pv 1) pe_int))
      (pss_cons (pset (i := 7) sc_law_changed.nd (pe_op op_fdiv (pv 1) pe_int))
      (pss_cons (pset (i := 8) sc_law_changed.nd (pe_op op_mod (pv 7) (pe_callB cr_len (by rfl) T.f_len PySem.boot_len (pa_cons (pv 4) pa_nil))))
      (pss_cons (pset (i := 9) sc_law_changed.nd (pe_ix ix_list (pv 4) (pv 8) (fun _ _ => rfl)))
      (pss_cons (pset (i := 10) sc_law_changed.nd (pe_op op_catS (pe_op op_catS (pv 2) (pe_lc (own := [("row", 11)]) (g := gName 11) (tt := tYes) rfl sc_law_changed.nd (pi_list (pv 3)) (blkOk_by (N := N_law_changed) (sc := defScope s_law_changed) (by decide +kernel)) (fun _ _ _ _ _ => (pgn (i := 11) sc_law_changed.nd)) (fun _ _ _ _ _ => pts_nil) (fun _ _ _ _ _ => (pe_ix (show IxR _ (rIxT K) from ix_tup) (pv 11) pe_int (fun _ _ => rfl))))) (pe_lc (own := [("other", 12)]) (g := gName 12) (tt := tYes) rfl sc_law_changed.nd (pi_list (pv 4)) (blkOk_by (N := N_law_changed) (sc := defScope s_law_changed) (by decide +kernel)) (fun _ _ _ _ _ => (pgn (i := 12) sc_law_changed.nd)) (fun _ _ _ _ _ => pts_nil) (fun _ _ _ _ _ => (pe_ix (show IxR _ (rIxT K) from ix_tup) (pv 12) pe_int (fun _ _ => rfl))))))
      (pss_cons (pset (i := 12) sc_law_changed.nd (pe_ix ix_list (pv 10) (pe_op op_mod (pe_op op_fdiv (pv 7) pe_int) (pe_callB cr_len (by rfl) T.f_len PySem.boot_len (pa_cons (pv 10) pa_nil))) (fun _ _ => rfl)))
      (pss_cons (ps_if (pt_cmpR op_eq (pv 6) pe_int (nomark _)) (pss_one (ps_ret (pe_tup (pa_cons (pe_op op_catS (pv 2) (pe_lst (pa_cons (pe_ix ix_list (pe_lst (pa_cons pe_str (pa_cons pe_str (pa_cons pe_non (pa_cons (pe_op op_mulS pe_str pe_int) (pa_cons (pv 12) pa_nil)))))) (pe_op op_mod (pe_op op_fdiv (pv 7) pe_int) pe_int) (fun _ _ => rfl)) pa_nil))) (pa_cons (pv 3) (pa_cons (pv 4) (pa_cons (pv 5) pa_nil))))))) pss_nil)
      (pss_cons (ps_if (pt_cmpR op_eq (pv 6) pe_int (nomark _)) (pss_one (ps_ret (pe_tup (pa_cons (pv 2) (pa_cons (pe_op op_catS (pv 3) (pe_lst (pa_cons (pe_ix ix_list (pe_lst (pa_cons (pe_tup (pa_cons pe_str pa_nil)) (pa_cons (pe_tup (pa_cons pe_str (pa_cons pe_str pa_nil))) (pa_cons (pe_lst (pa_cons pe_str (pa_cons pe_str pa_nil))) (pa_cons (pe_tup (pa_cons (pv 12) (pa_cons pe_str pa_nil))) (pa_cons (pe_tup (pa_cons pe_str (pa_cons pe_str pa_nil))) pa_nil)))))) (pe_op op_mod (pe_op op_fdiv (pv 7) pe_int) pe_int) (fun _ _ => rfl)) pa_nil))) (pa_cons (pv 4) (pa_cons (pv 5) pa_nil))))))) pss_nil)
      (pss_cons (ps_if (pt_cmpR op_eq (pv 6) pe_int (nomark _)) (pss_one (ps_ret (pe_tup (pa_cons (pv 2) (pa_cons (pv 3) (pa_cons (pv 4) (pa_cons (pe_op op_catS (pv 5) (pe_lst (pa_cons (pe_ix ix_list (pe_lst (pa_cons pe_str (pa_cons pe_str (pa_cons pe_str (pa_cons pe_non (pa_cons pe_str pa_nil)))))) (pe_op op_mod (pe_op op_fdiv (pv 7) pe_int) pe_int) (fun _ _ => rfl)) pa_nil))) pa_nil))))))) pss_nil)
      (pss_cons (ps_if (pt_cmpR op_eq (pv 6) pe_int (nomark _)) (pss_one (ps_ret (pe_tup (pa_cons (pv 2) (pa_cons (pv 3) (pa_cons (pe_op op_catS (pe_op op_catS (pe_slice sl_list (pv 4) po_none (po_some (pv 8))) (pe_lst (pa_cons (pe_op op_catA (pe_tup (pa_cons (pv 12) pa_nil)) (pe_slice sl_tupA (pv 9) (po_some pe_int) po_none)) pa_nil))) (pe_slice sl_list (pv 4) (po_some (pe_op op_add (pv 8) pe_int)) po_none)) (pa_cons (pv 5) pa_nil))))))) pss_nil)
      (pss_cons (ps_if (PW.pt (pw_and (pt_cmpR op_eq (pv 6) pe_int (nomark _)) (pw_and1 (pt_cmpR op_gt (pe_callB cr_len (by rfl) T.f_len PySem.boot_len (pa_cons (pe_ix ix_tup (pv 9) pe_int (fun _ _ => rfl)) pa_nil)) pe_int (nomark _))))) (pss_one (ps_ret (pe_tup (pa_cons (pv 2) (pa_cons (pv 3) (pa_cons (pe_op op_catS (pe_op op_catS (pe_slice sl_list (pv 4) po_none (po_some (pv 8))) (pe_lst (pa_cons (pe_op op_catA (pe_slice sl_tupA (pv 9) po_none (po_some pe_int)) (pe_tup (pa_cons (pe_op op_catA (pe_tup (pa_cons (pv 12) pa_nil)) (pe_slice sl_tupA (pe_ix ix_tup (pv 9) pe_int (fun _ _ => rfl)) (po_some pe_int) po_none)) pa_nil))) pa_nil))) (pe_slice sl_list (pv 4) (po_some (pe_op op_add (pv 8) pe_int)) po_none)) (pa_cons (pv 5) pa_nil))))))) pss_nil)
      (pss_cons (ps_if (pt_cmpR op_eq (pv 6) pe_int (nomark _)) (pss_one (ps_ret (pe_tup (pa_cons (pv 2) (pa_cons (pv 3) (pa_cons (pe_op op_catS (pe_op op_catS (pe_slice sl_list (pv 4) po_none (po_some (pv 8))) (pe_lst (pa_cons (pe_op op_catA (pe_slice sl_tupA (pv 9) po_none (po_some pe_int)) (pe_tup (pa_cons (pe_op op_catA (pe_ix ix_tup (pv 9) pe_int (fun _ _ => rfl)) (pe_tup (pa_cons pe_str pa_nil))) pa_nil))) pa_nil))) (pe_slice sl_list (pv 4) (po_some (pe_op op_add (pv 8) pe_int)) po_none)) (pa_cons (pv 5) pa_nil))))))) pss_nil)
      (pss_cons (ps_if (pt_cmpR op_eq (pv 6) pe_int (nomark _)) (pss_one (ps_ret (pe_tup (pa_cons (pv 2) (pa_cons (pv 3) (pa_cons (pe_op op_catS (pe_op op_catS (pe_slice sl_list (pv 4) po_none (po_some (pv 8))) (pe_lst (pa_cons (pe_op op_catA (pe_slice sl_tupA (pv 9) po_none (po_some pe_int)) (pe_tup (pa_cons (pe_op op_catA (pe_ix ix_tup (pv 9) pe_int (fun _ _ => rfl)) (pe_tup (pa_cons pe_str (pa_cons pe_str (pa_cons pe_str pa_nil))))) pa_nil))) pa_nil))) (pe_slice sl_list (pv 4) (po_some (pe_op op_add (pv 8) pe_int)) po_none)) (pa_cons (pv 5) pa_nil))))))) pss_nil)
      (pss_cons (ps_if (pt_cmpR op_eq (pv 6) pe_int (nomark _)) (pss_cons (pset (i := 13) sc_law_changed.nd (pe_ix ix_list (pe_lst (pa_cons pe_str (pa_cons pe_str (pa_cons pe_non (pa_cons pe_str (pa_cons pe_str (pa_cons pe_str pa_nil))))))) (pe_op op_mod (pe_op op_fdiv (pv 7) pe_int) pe_int) (fun _ _ => rfl)))
      (pss_one (ps_ret (pe_tup (pa_cons (pv 2) (pa_cons (pv 3) (pa_cons (pe_op op_catS (pe_op op_catS (pe_slice sl_list (pv 4) po_none (po_some (pv 8))) (pe_lst (pa_cons (pe_tup (pa_cons (pe_ix ix_tup (pv 9) pe_int (fun _ _ => rfl)) (pa_cons (pv 13) (pa_cons (pe_ix ix_tup (pv 9) pe_int (fun _ _ => rfl)) pa_nil)))) pa_nil))) (pe_slice sl_list (pv 4) (po_some (pe_op op_add (pv 8) pe_int)) po_none)) (pa_cons (pv 5) pa_nil)))))))) pss_nil)
      (pss_cons (ps_if (pt_cmpR op_eq (pv 6) pe_int (nomark _)) (pss_one (ps_ret (pe_tup (pa_cons (pv 2) (pa_cons (pv 3) (pa_cons (pe_op op_catS (pe_op op_catS (pe_slice sl_list (pv 4) po_none (po_some (pv 8))) (pe_lst (pa_cons (pe_ix ix_list (pe_lst (pa_cons (pe_slice sl_tupA (pv 9) po_none (po_some pe_int)) (pa_cons (pe_callTy cr_list (by rfl) T.f_list (by decide +kernel) (pa_cons (pv 9) pa_nil)) (pa_cons (pe_op op_catA (pe_slice sl_tupA (pv 9) po_none (po_some pe_int)) (pe_tup (pa_cons (pe_lst (pa_cons pe_str pa_nil)) pa_nil))) (pa_cons pe_non pa_nil))))) (pe_op op_mod (pe_op op_fdiv (pv 7) pe_int) pe_int) (fun _ _ => rfl)) pa_nil))) (pe_slice sl_list (pv 4) (po_some (pe_op op_add (pv 8) pe_int)) po_none)) (pa_cons (pv 5) pa_nil))))))) pss_nil)
      (pss_cons (ps_if (pt_cmpR op_eq (pv 6) pe_int (nomark _)) (pss_one (ps_ret (pe_tup (pa_cons (pe_slice sl_list (pv 2) (po_some pe_int) po_none) (pa_cons (pv 3) (pa_cons (pv 4) (pa_cons (pv 5) pa_nil))))))) pss_nil)
      (pss_one (ps_ret (pv 0)))))))))))))))))))), ?_⟩
  rintro ds r ⟨c, n, rfl, hn, hg, ok, rfl⟩
  left
  show Se P w K _ [.d c.ch.d, .d (.int n), .u, .u, .u, .u, .u, .u, .u, .u, .u, .u, .u, .u] _
  obtain ⟨o1, o2, o3, o4, o5⟩ := id ok
  have hl : 0 < c.gs.length := List.length_pos_iff.mpr hg
  obtain ⟨a1, a2⟩ := gat_at hg n
  have hgl := gat_len hg ok n
  refine se_seq (se_asgG (ee_p ep_var) (ge_tup (gs_cons ge_name (gs_cons ge_name (gs_cons ge_name (gs_cons ge_name gs_nil)))))) ?_
  show Se P w K _ [.d c.ch.d, .d (.int n), .d (.lst c.ch.IS), .d (.lst c.ch.RS), .d (.lst c.ch.GS), .d (.lst c.ch.OS), .u, .u, .u, .u, .u, .u, .u, .u] _
  refine se_seq (se_asg (d := .int (n % 11)) (ee_p (by walk_at "ep"))) ?_
  refine se_seq (se_asg (d := .int (n / 11)) (ee_p (by walk_at "ep"))) ?_
  have hgs : c.ch.GS.length = c.gs.length := by show (c.gs.map Gt.d).length = _; simp
  refine se_seq (se_asg (d := .int ((n / 11 % (c.gs.length : Int)).toNat : Int)) (ee_p (ep_is (ep_op ep_var (ep_cb (ap_cons ep_var ap_nil) rl_len) (r2_I ?_)) (by rw [hgs, a2])))) ?_
  · show (0 : Int) < (c.ch.GS.length : Int)
    rw [hgs]
    omega
  refine se_seq (se_asg (d := (gAtC c n).d) (ee_p (ep_op ep_var ep_var (r2_ixL (j := (n / 11 % (c.gs.length : Int)).toNat) (ixN_nat (by rw [hgs]; exact a1)) ?_)))) ?_
  · show (c.gs.map Gt.d)[_]? = _
    rw [List.getElem?_map, itemD (l := c.gs) ⟨"", "", []⟩ a1]
    rfl
  let Ev0 : List Sl := [.d c.ch.d, .d (.int n), .d (.lst c.ch.IS), .d (.lst c.ch.RS), .d (.lst c.ch.GS), .d (.lst c.ch.OS), .d (.int (n % 11)), .d (.int (n / 11)), .d (.int ((n / 11 % (c.gs.length : Int)).toNat : Int)), .d (gAtC c n).d, .u, .u, .u, .u]
  show Se P w K _ Ev0 _
  have hll : (linesOf c.is c.rs c.gs).length = c.is.length + c.rs.length + c.gs.length := by
    unfold linesOf srcOf
    simp
    omega
  refine se_seq (se_asg (d := .lst ((linesOf c.is c.rs c.gs).map .str)) (ee_p (ep_is (ep_op (d := .lst ((srcOf c.is c.rs).map .str)) (e := .lst ((c.gs.map Gt.l).map .str)) (ep_is (ep_op (d := .lst (c.is.map .str)) (e := .lst ((c.rs.map Prod.fst).map .str)) (ep_var rfl) (ep_is (ep_new (np_mapT c.rs regD (ip_list (ep_var rfl)) (by omega) (fun r => .str r.1) fun i r _ => ep_op ep_var ep_int (itm (i := 0) rfl))) (by rw [List.map_map]; rfl)) (r2_cat (by simp; omega))) (by unfold srcOf; rw [List.map_append])) (ep_is (ep_new (np_mapT c.gs Gt.d (ip_list (ep_var rfl)) (by omega) (fun g => .str g.l) fun i g _ => ep_op ep_var ep_int (itm (i := 0) rfl))) (by rw [List.map_map]; rfl)) (r2_cat (by unfold srcOf; simp; omega))) (by unfold linesOf; rw [List.map_append])))) ?_
  have hne : linesOf c.is c.rs c.gs ≠ [] := by
    intro z
    rw [z] at hll
    simp at hll
    omega
  obtain ⟨p1, p2⟩ := pick_at hne (n / 11 / 7)
  refine se_seq (se_asg (d := .str (othC c n)) (ee_p (ep_op ep_var (ep_op (ep_op ep_var ep_int (r2_I (show CDiv _ _ from ⟨by omega, by omega⟩))) (ep_cb (ap_cons ep_var ap_nil) rl_len) (r2_I ?_)) (r2_ixL p1 p2)))) ?_
  · show (0 : Int) < (((linesOf c.is c.rs c.gs).map Dt.str).length : Int)
    rw [List.length_map, hll]
    omega
  let Ev : En := [.d c.ch.d, .d (.int n), .d (.lst c.ch.IS), .d (.lst c.ch.RS), .d (.lst c.ch.GS), .d (.lst c.ch.OS), .d (.int (n % 11)), .d (.int (n / 11)), .d (.int ((n / 11 % (c.gs.length : Int)).toNat : Int)), .d (gAtC c n).d, .d (.lst ((linesOf c.is c.rs c.gs).map .str)), .u, .d (.str (othC c n)), .u]
  show Se P w K _ Ev _
  have z2 : c.ch.IS.length ≤ 1000 := by show (c.is.map Dt.str).length ≤ 1000; simpa using o1
  have z3 : c.ch.RS.length ≤ 1000 := by show (c.rs.map regD).length ≤ 1000; simpa using o2
  have z4 : c.ch.GS.length ≤ 1000 := by rw [hgs]; exact o3
  have z5 : c.ch.OS.length ≤ 1000 := by show (c.os.map Dt.str).length ≤ 1000; simpa using o4
  have hat : (n / 11 % (c.gs.length : Int)).toNat < c.ch.GS.length := by rw [hgs]; exact a1
  have e0 : ∀ {en : En}, en[9]? = some (.d (gAtC c n).d) → Ep P w K (tOp (rIxT K) (tVar 9) (tC (.int 0))) en (.str (gAtC c n).l) := fun h => ep_op (ep_var h) ep_int (itm (i := 0) rfl)
  have e2 : ∀ {en : En}, en[9]? = some (.d (gAtC c n).d) → Ep P w K (tOp (rIxT K) (tVar 9) (tC (.int 2))) en (.tup ((gAtC c n).ps.map .str)) := fun h => ep_op (ep_var h) ep_int (itm (i := 2) rfl)
  have et2 : ∀ {en : En}, en[9]? = some (.d (gAtC c n).d) → Ep P w K (tSl (rSlA K) (tVar 9) tNoPart (tPart (tC (.int 2)))) en (.tup [.str (gAtC c n).l, .str (gAtC c n).k]) := fun h => ep_is (ep_slT (hi := some ((2 : Nat) : Int)) (ep_var h) qo_none (qo_some ep_int)) (congrArg Dt.tup (cut_take2 [Dt.str (gAtC c n).l, Dt.str (gAtC c n).k, Dt.tup ((gAtC c n).ps.map .str)] 2 (show 2 ≤ 3 by decide)))
  refine se_pick (n := n % 11) rfl (fun _ => ep_tup (ap_cons (ep_op (ep_var rfl) (ep_lst (ap_cons (ep_lit 4 (ep_lst (ap_cons ep_str (ap_cons ep_str (ap_cons ep_non (ap_cons (ep_op ep_str ep_int (r2_mulS ⟨by decide, fun _ _ => by decide, fun _ _ => by decide +kernel⟩)) (ap_cons (ep_var rfl) ap_nil)))))) rfl rfl) ap_nil)) (r2_cat (by simp; omega))) (ap_cons (ep_var rfl) (ap_cons (ep_var rfl) (ap_cons (ep_var rfl) ap_nil))))) (fun h => by unfold chg; rw [if_pos h]; rfl) fun n0 => ?_
  refine se_pick (n := n % 11) rfl (fun _ => ep_tup (ap_cons (ep_var rfl) (ap_cons (ep_op (ep_var rfl) (ep_lst (ap_cons (ep_lit 4 (ep_lst (ap_cons (ep_tup (ap_cons ep_str ap_nil)) (ap_cons (ep_tup (ap_cons ep_str (ap_cons ep_str ap_nil))) (ap_cons (ep_lst (ap_cons ep_str (ap_cons ep_str ap_nil))) (ap_cons (ep_tup (ap_cons (ep_var rfl) (ap_cons ep_str ap_nil))) (ap_cons (ep_tup (ap_cons ep_str (ap_cons ep_str ap_nil))) ap_nil)))))) rfl rfl) ap_nil)) (r2_cat (by simp; omega))) (ap_cons (ep_var rfl) (ap_cons (ep_var rfl) ap_nil))))) (fun h => by unfold chg; rw [if_neg n0, if_pos h]; rfl) fun n1 => ?_
  refine se_pick (n := n % 11) rfl (fun _ => ep_tup (ap_cons (ep_var rfl) (ap_cons (ep_var rfl) (ap_cons (ep_var rfl) (ap_cons (ep_op (ep_var rfl) (ep_lst (ap_cons (ep_lit 4 (ep_lst (ap_cons ep_str (ap_cons ep_str (ap_cons ep_str (ap_cons ep_non (ap_cons ep_str ap_nil)))))) rfl rfl) ap_nil)) (r2_cat (by simp; omega))) ap_nil))))) (fun h => by unfold chg; rw [if_neg n0, if_neg n1, if_pos h]; rfl) fun n2 => ?_
  refine se_pick (n := n % 11) rfl (fun _ => ep_tup (ap_cons (ep_var rfl) (ap_cons (ep_var rfl) (ap_cons (ep_gsub rfl rfl hat z4 (ep_op (ep_tup (ap_cons (ep_var rfl) ap_nil)) (ep_is (ep_slT (lo := some 1) (ep_var rfl) (qo_some ep_int) qo_none) (by rw [cut_tail])) (r2_catT (by simp)))) (ap_cons (ep_var rfl) ap_nil))))) (fun h => by unfold chg; rw [if_neg n0, if_neg n1, if_neg n2, if_pos h]; rfl) fun n3 => ?_
  refine se_when (b := decide (n % 11 = 4) && decide (0 < (gAtC c n).ps.length)) (te_p (tp_is (tp_and (tp_test (ep_op (ep_var rfl) ep_int r2_eqI)) fun _ => tp_test (ep_op (ep_cb (ap_cons (e2 rfl) ap_nil) rl_lenT) ep_int r2_B0)) ?_)) (fun hb => ?_) (fun hb => ?_)
  · rw [List.length_map]
    congr 1
    exact decide_eq_decide.mpr (by omega)
  · simp only [Bool.and_eq_true, decide_eq_true_eq] at hb
    refine se_seqF (se_is (se_ret (ee_p (ep_tup (ap_cons (ep_var rfl) (ap_cons (ep_var rfl) (ap_cons (ep_gsub rfl rfl hat z4 (ep_op (et2 rfl) (ep_tup (ap_cons (ep_op (ep_tup (ap_cons (ep_var rfl) ap_nil)) (ep_is (ep_slT (lo := some 1) (e2 rfl) (qo_some ep_int) qo_none) (by rw [cut_tail])) (r2_catT (by simp; omega))) ap_nil)) (r2_catT (by simp)))) (ap_cons (ep_var rfl) ap_nil))))))) ?_)
    unfold chg
    rw [if_neg n0, if_neg n1, if_neg n2, if_neg n3, if_pos hb]
    rfl
  have n4 : ¬ (n % 11 = 4 ∧ 0 < (gAtC c n).ps.length) := by
    intro h
    rw [decide_eq_true h.1, decide_eq_true h.2] at hb
    cases hb
  refine se_pick (n := n % 11) rfl (fun _ => ep_tup (ap_cons (ep_var rfl) (ap_cons (ep_var rfl) (ap_cons (ep_gsub rfl rfl hat z4 (ep_op (et2 rfl) (ep_tup (ap_cons (ep_op (e2 rfl) (ep_tup (ap_cons ep_str ap_nil)) (r2_catT (by simp; omega))) ap_nil)) (r2_catT (by simp)))) (ap_cons (ep_var rfl) ap_nil))))) (fun h => by unfold chg; rw [if_neg n0, if_neg n1, if_neg n2, if_neg n3, if_neg n4, if_pos h]; rfl) fun n5 => ?_
  refine se_pick (n := n % 11) rfl (fun _ => ep_tup (ap_cons (ep_var rfl) (ap_cons (ep_var rfl) (ap_cons (ep_gsub rfl rfl hat z4 (ep_op (et2 rfl) (ep_tup (ap_cons (ep_op (e2 rfl) (ep_tup (ap_cons ep_str (ap_cons ep_str (ap_cons ep_str ap_nil)))) (r2_catT (by simp; omega))) ap_nil)) (r2_catT (by simp)))) (ap_cons (ep_var rfl) ap_nil))))) (fun h => by unfold chg; rw [if_neg n0, if_neg n1, if_neg n2, if_neg n3, if_neg n4, if_neg n5, if_pos h]; rfl) fun n6 => ?_
  refine se_when (b := decide (n % 11 = 7)) (te_p (tp_test (ep_op (ep_var rfl) ep_int r2_eqI))) (fun hb => ?_) (fun hb => ?_)
  · have hb := of_decide_eq_true hb
    refine se_seqF (se_seq (se_asg (ee_p (ep_lit 5 (ep_lst (ap_cons ep_str (ap_cons ep_str (ap_cons ep_non (ap_cons ep_str (ap_cons ep_str (ap_cons ep_str ap_nil))))))) rfl rfl))) (se_is (se_ret (ee_p (ep_tup (ap_cons (ep_var rfl) (ap_cons (ep_var rfl) (ap_cons (ep_gsub rfl rfl hat z4 (ep_tup (ap_cons (e0 rfl) (ap_cons (ep_var rfl) (ap_cons (e2 rfl) ap_nil))))) (ap_cons (ep_var rfl) ap_nil))))))) ?_))
    unfold chg
    rw [if_neg n0, if_neg n1, if_neg n2, if_neg n3, if_neg n4, if_neg n5, if_neg n6, if_pos hb]
    rfl
  have n7 := of_decide_eq_false hb
  refine se_pick (n := n % 11) rfl (fun _ => ep_tup (ap_cons (ep_var rfl) (ap_cons (ep_var rfl) (ap_cons (ep_gsub rfl rfl hat z4 (ep_lit 3 (ep_lst (ap_cons (et2 rfl) (ap_cons (ep_new (np_cb (ap_cons (ep_var rfl) ap_nil) rn_listT)) (ap_cons (ep_op (et2 rfl) (ep_tup (ap_cons (ep_lst (ap_cons ep_str ap_nil)) ap_nil)) (r2_catT (by simp))) (ap_cons ep_non ap_nil))))) rfl rfl)) (ap_cons (ep_var rfl) ap_nil))))) (fun h => by unfold chg; rw [if_neg n0, if_neg n1, if_neg n2, if_neg n3, if_neg n4, if_neg n5, if_neg n6, if_neg n7, if_pos h]; rfl) fun n8 => ?_
  refine se_pick (n := n % 11) rfl (fun _ => ep_tup (ap_cons (ep_is (ep_new (np_slL (lo := some ((1 : Nat) : Int)) (ep_var rfl) (qo_some ep_int) qo_none)) (congrArg Dt.lst (show _ = c.ch.IS.drop 1 from cut_tail c.ch.IS))) (ap_cons (ep_var rfl) (ap_cons (ep_var rfl) (ap_cons (ep_var rfl) ap_nil))))) (fun h => by unfold chg; rw [if_neg n0, if_neg n1, if_neg n2, if_neg n3, if_neg n4, if_neg n5, if_neg n6, if_neg n7, if_neg n8, if_pos h]; rfl) fun n9 => ?_
  refine se_is (se_ret (ee_p (ep_var rfl))) ?_
  unfold chg
  rw [if_neg n0, if_neg n1, if_neg n2, if_neg n3, if_neg n4, if_neg n5, if_neg n6, if_neg n7, if_neg n8, if_neg n9]
end
end CC

set_option maxHeartbeats 400000
namespace CC
open PySem PySem.Spec PyProof.Rows L2 Qw
open Evl hiding ea_cons
open Pw (Dt Rp RpL Wk R2d R1d RLd RLn Kq KqL truD flatD fl py pyL rangeD charsD spX2 Xm Xm0 tyD isI isB isS isTp isL rl_isInt rl_isBool rl_isStr rl_isTup rl_isList rl_int rl_max2 rl_min2 rl_len rl_lenT rl_tup rl_tupT rl_lenS rl_all rl_any rn_list rn_listT r2_I0 r2_B0 r2_eqI r2_neI r2_eqS r2_neS r2_eq r2_ne r2_I r2_inS r2_niS r2_in r2_inT r2_ixL r2_ixT r2_ixS r2_addS r2_eqD r2_neD r2_ixM r1_U ixN_at itemD cr_int cr_min2 cr_max2 cr_list cr_tuple cr_len pe_globI pe_globS pe_globR pe_tyname rTupS rInt1 rMin2)
local macro_rules | `(tactic| walk_at "side") => `(tactic| first
  | decide | omega | assumption | (show (0 : Int) < _; omega) | exact (show CDiv _ _ from ⟨by omega, by omega⟩) | exact (show CMul _ _ from Or.inr ⟨by omega, by omega⟩) | exact (show CMul _ _ from Or.inl ⟨by omega, by omega⟩) | exact (show CPow _ _ from ⟨by decide, by decide, by decide⟩))
local macro_rules | `(tactic| walk_at "op") => `(tactic| first
  | exact r2_I0 | exact r2_B0 | exact r2_eqI | exact r2_neI | exact r2_eqS | exact r2_neS
  | exact r2_eq rfl rfl rfl | exact r2_ne rfl rfl rfl
  | (refine' r2_I ?_; walk_at "side") | exact r2_inS | exact r2_niS)
local macro_rules | `(tactic| walk_at "rl") => `(tactic| first
  | exact rl_int | exact rl_max2 | exact rl_min2 | exact rl_len | exact rl_lenT | exact rl_isInt (by first | rfl | assumption) | exact rl_isBool (by first | rfl | assumption) | exact rl_isStr (by first | rfl | assumption) | exact rl_isTup (by first | rfl | assumption) | exact rl_isList (by first | rfl | assumption) | exact rl_tup | exact rl_tupT | (refine' rl_lenS ?_; walk_at "side"))
local macro_rules | `(tactic| walk_at "ap") => `(tactic| first
  | exact ap_nil
  | (refine' ap_cons ?eah ?eat; (case eah => walk_at "ep"); (case eat => walk_at "ap")))
local macro_rules | `(tactic| walk_at "ep") => `(tactic| first
  | exact ep_int | exact ep_bl | exact ep_str | exact ep_non | exact ep_ty | exact ep_var
  | (refine' ep_op ?eva ?evb ?evc; (case eva => walk_at "ep"); (case evb => walk_at "ep"); (case evc => walk_at "op"))
  | (refine' ep_cb ?evd ?eve; (case evd => walk_at "ap"); (case eve => walk_at "rl"))
  | (refine' ep_un ?evf r1_U; (case evf => walk_at "ep"))
  | (refine' ep_tup ?evg ?evi; (case evg => walk_at "ap"); (case evi => exact Nat.le_of_ble_eq_true rfl))
  | (refine' ep_lst ?evh ?evj; (case evh => walk_at "ap"); (case evj => exact Nat.le_of_ble_eq_true rfl))
  | assumption)
local macro_rules | `(tactic| walk_at "ee") => `(tactic| (refine' ee_p ?eep; (case eep => walk_at "ep")))
local macro_rules | `(tactic| walk_at "te") => `(tactic| (refine' te_p ?tep; (case tep => walk_at "tp")))
local macro_rules | `(tactic| walk_at "tp") => `(tactic| first
  | (refine' tp_test ?tea; (case tea => walk_at "ep"))
  | (refine' tp_B ?teb; (case teb => walk_at "ep"))
  | (refine' tp_not ?tec; (case tec => walk_at "tp"))
  | (refine' tp_or ?ted ?tee; (case ted => walk_at "tp"); (case tee => intro _; walk_at "tp"))
  | (refine' tp_and ?tef ?teg; (case tef => walk_at "tp"); (case teg => intro _; walk_at "tp"))
  | assumption)
section
variable {P : Program} {w : World} {K : PySem.W.Frag} {mg : Str → Option Value} {base : Heap}

/-! ### what the law says is due -/
def fresh (gs : List Gt) (k : List Str) : List Str := (gs.filter fun g => !decide (g.l ∈ k) && g.ps.all fun p => decide (p ∈ k)).map Gt.l
def clos (gs : List Gt) : Nat → List Str → List Str
  | 0, k => k
  | n + 1, k => clos gs n (k ++ fresh gs k)
def two (a b : Str) : Dt := .tup [.str a, .str b]
def dueC (c : Cp) : Dt :=
  match (List.range (linesOf c.is c.rs c.gs).length).find? fun k => decide ((linesOf c.is c.rs c.gs).getD k "" ∈ (linesOf c.is c.rs c.gs).take k) with
  | some k => two "twice" ((linesOf c.is c.rs c.gs).getD k "")
  | none => match (usesOf c).find? fun y => !decide (y ∈ linesOf c.is c.rs c.gs) with
    | some y => two "unknown" y
    | none => if 400 < (linesOf c.is c.rs c.gs).length ∨ 40 < c.is.length + c.rs.length then two "size" "" else
      match c.gs.find? fun g => !decide (g.l ∈ clos c.gs c.gs.length (srcOf c.is c.rs)) with
      | some g => two "loop" g.l
      | none => .non
def R_law_due (ds : List Dt) (r : Rs) : Prop := ∃ is rs gs os, ds = [p4 is rs gs os] ∧ Q4 is rs gs os ∧ ((formOk is rs gs os = false ∧ r = .d (two "form" "")) ∨ (formOk is rs gs os = true ∧ ∃ c : Cp, is = c.is.map .str ∧ rs = c.rs.map regD ∧ gs = c.gs.map Gt.d ∧ os = c.os.map .str ∧ c.ok ∧ r = .d (dueC c)))
theorem l_law_due (ds : List Dt) (r : Rs) (h : R_law_due ds r) : ds.length = 1 := by
  obtain ⟨_, _, _, _, rfl, _⟩ := h
  rfl
theorem count_two {α : Type} (a b d : α → Bool) (h : ∀ x, a x = true → d x = true) (h2 : ∀ x, b x = true → d x = true) (h3 : ∀ x, a x = true → b x = true → False) : ∀ l : List α, (l.filter a).length + (l.filter b).length ≤ (l.filter d).length
  | [] => Nat.le_refl _
  | x :: l => by
    have ih := count_two a b d h h2 h3 l
    cases ha : a x <;> cases hb : b x <;> cases hd : d x <;> simp only [List.filter_cons, ha, hb, hd, if_true, if_false, List.length_cons, Bool.false_eq_true] <;> first
      | (exact (h3 x ha hb).elim)
      | omega
      | (have := h x ha; rw [hd] at this; cases this)
      | (have := h2 x hb; rw [hd] at this; cases this)
      | (exact (h3 x ha hb).elim)
def miss (gs : List Gt) (k : List Str) : Nat := (gs.filter fun g => !decide (g.l ∈ k)).length
theorem fresh_miss (gs : List Gt) (k : List Str) : (k ++ fresh gs k).length + miss gs (k ++ fresh gs k) ≤ k.length + miss gs k := by
  have key : (gs.filter fun g => !decide (g.l ∈ k ++ fresh gs k)).length + (gs.filter fun g => !decide (g.l ∈ k) && g.ps.all fun p => decide (p ∈ k)).length ≤ (gs.filter fun g => !decide (g.l ∈ k)).length := by
    have h0 : ∀ g ∈ gs, (!decide (g.l ∈ k) && g.ps.all fun p => decide (p ∈ k)) = true → g.l ∈ fresh gs k := fun g hg h => List.mem_map.mpr ⟨g, List.mem_filter.mpr ⟨hg, h⟩, rfl⟩
    have e : (gs.filter fun g => !decide (g.l ∈ k) && g.ps.all fun p => decide (p ∈ k)) = gs.filter fun g => (!decide (g.l ∈ k) && g.ps.all fun p => decide (p ∈ k)) && decide (g.l ∈ fresh gs k) := by
      refine List.filter_congr fun g hg => ?_
      cases h : (!decide (g.l ∈ k) && g.ps.all fun p => decide (p ∈ k)) with
      | false => simp
      | true => simp [h0 g hg h]
    rw [e]
    refine count_two _ _ _ (fun g h => ?_) (fun g h => ?_) (fun g h h2 => ?_) gs
    · simp at h ⊢
      exact h.1
    · simp at h ⊢
      exact h.1.1
    · simp at h h2
      exact h.2 h2.2
  unfold miss
  rw [List.length_append]
  have : (fresh gs k).length = (gs.filter fun g => !decide (g.l ∈ k) && g.ps.all fun p => decide (p ∈ k)).length := by unfold fresh; rw [List.length_map]
  omega
theorem clos_len (gs : List Gt) : ∀ (n : Nat) (k : List Str), (clos gs n k).length + miss gs (clos gs n k) ≤ k.length + miss gs k
  | 0, k => Nat.le_refl _
  | n + 1, k => Nat.le_trans (clos_len gs n (k ++ fresh gs k)) (fresh_miss gs k)
theorem clos_len2 (gs : List Gt) (n : Nat) (k : List Str) : (clos gs n k).length ≤ k.length + gs.length := by
  have h1 := clos_len gs n k
  have h2 : miss gs k ≤ gs.length := List.length_filter_le _ _
  omega
theorem clos_succ (gs : List Gt) : ∀ (n : Nat) (k : List Str), clos gs (n + 1) k = clos gs n k ++ fresh gs (clos gs n k)
  | 0, k => rfl
  | n + 1, k => clos_succ gs n (k ++ fresh gs k)
theorem clos_fix (gs : List Gt) {k : List Str} (h : fresh gs k = []) : ∀ n : Nat, clos gs n k = k
  | 0 => rfl
  | n + 1 => by
    show clos gs n (k ++ fresh gs k) = k
    rw [h, List.append_nil]
    exact clos_fix gs h n
theorem clos_add (gs : List Gt) (k : List Str) : ∀ (m n : Nat), clos gs (m + n) k = clos gs n (clos gs m k)
  | 0, n => by rw [Nat.zero_add]; rfl
  | m + 1, n => by
    rw [Nat.add_right_comm]
    exact clos_add gs (k ++ fresh gs k) m n
theorem ap_flat (gs : List Gt) : ∀ q : List Str, gs.foldl (fun q g => q ++ g.ps) q = q ++ gs.flatMap Gt.ps := by
  induction gs with
  | nil => intro q; simp
  | cons g gs ih => intro q; rw [List.foldl_cons, ih]; simp
theorem flat_len : ∀ l : List Gt, (∀ g ∈ l, g.ps.length ≤ 4) → (l.flatMap Gt.ps).length ≤ 4 * l.length := by
  intro l
  induction l with
  | nil => intro _; simp
  | cons g l ih =>
    intro h
    have h1 := ih fun x hx => h x (by simp [hx])
    have h2 := h g (by simp)
    simp only [List.flatMap_cons, List.length_append, List.length_cons]
    omega
abbrev s_law_due : Stmt := top 34
abbrev N_law_due : List Str := ["parts", "inputs", "registers", "gates", "outputs", "lines", "row", "gate", "k", "uses", "name", "known", "turn", "fresh", "pin"]
theorem sc_law_due : FnScope N_law_due ["parts"] (defScope s_law_due) := ⟨rfl, rfl, rfl, by decide +kernel, rfl, by decide +kernel, by decide +kernel⟩
theorem k_law_due (T : Txt K mg) (D : Dx K mg "_law_due" ["parts"] s_law_due)  (G__law_forms : Fx P w K mg base 3 "_law_forms" ["parts"] (spR P w K R_law_forms)) : Fx P w K mg base 4 "_law_due" ["parts"] (spR P w K R_law_due) := by
  refine Fx.of D sc_law_due (l_law_due) fun f cdv A outer s H E hr => ?_
  refine ⟨_, (pss_cons (ps_if (pt_not (pt_val (pe_fx G__law_forms (hr.mono (by decide)) (pa_cons (pv 0) pa_nil)))) (pss_one (ps_ret (pe_tup (pa_cons pe_str (pa_cons pe_str pa_nil))))) pss_nil)
      (pss_cons (ps_asg (pv 0) (pg_tup rfl (pgs_cons (pgn (i := 1) sc_law_due.nd) (pgs_cons (pgn (i := 2) sc_law_due.nd) (pgs_cons (pgn (i := 3) sc_law_due.nd) (pgs_cons (pgn (i := 4) sc_law_due.nd) pgs_nil))))))
      (pss_cons (pset (i := 5) sc_law_due.nd (pe_op op_catS (pe_op op_catS (pv 1) (pe_lc (own := [("row", 6)]) (g := gName 6) (tt := tYes) rfl sc_law_due.nd (pi_list (pv 2)) (blkOk_by (N := N_law_due) (sc := defScope s_law_due) (by decide +kernel)) (fun _ _ _ _ _ => (pgn (i := 6) sc_law_due.nd)) (fun _ _ _ _ _ => pts_nil) (fun _ _ _ _ _ => (pe_ix (show IxR _ (rIxT K) from ix_tup) (pv 6) pe_int (fun _ _ => rfl))))) (pe_lc (own := [("gate", 7)]) (g := gName 7) (tt := tYes) rfl sc_law_due.nd (pi_list (pv 3)) (blkOk_by (N := N_law_due) (sc := defScope s_law_due) (by decide +kernel)) (fun _ _ _ _ _ => (pgn (i := 7) sc_law_due.nd)) (fun _ _ _ _ _ => pts_nil) (fun _ _ _ _ _ => (pe_ix (show IxR _ (rIxT K) from ix_tup) (pv 7) pe_int (fun _ _ => rfl))))))
      (pss_cons (ps_for PassesOwn.never rfl (pi_range1 rfl T.f_range (pa_cons (pe_callB cr_len (by rfl) T.f_len PySem.boot_len (pa_cons (pv 5) pa_nil)) pa_nil)) (pgn (i := 8) sc_law_due.nd)
      (pss_one (ps_if (pt_cmpR op_in_seq (pe_ix ix_list (pv 5) (pv 8) (fun _ _ => rfl)) (pe_slice sl_list (pv 5) po_none (po_some (pv 8))) rfl) (pss_one (ps_ret (pe_tup (pa_cons pe_str (pa_cons (pe_ix ix_list (pv 5) (pv 8) (fun _ _ => rfl)) pa_nil))))) pss_nil)))
      (pss_cons (pset (i := 9) sc_law_due.nd (pe_lst pa_nil))
      (pss_cons (ps_for PassesOwn.never rfl (pi_list (pv 3)) (pgn (i := 7) sc_law_due.nd)
      (pss_one (pset (i := 9) sc_law_due.nd (pe_op op_catS (pv 9) (pe_callTy cr_list (by rfl) T.f_list (by decide +kernel) (pa_cons (pe_ix ix_tup (pv 7) pe_int (fun _ _ => rfl)) pa_nil))))))
      (pss_cons (ps_for PassesOwn.never rfl (pi_list (pe_op op_catS (pe_op op_catS (pv 9) (pe_lc (own := [("row", 6)]) (g := gName 6) (tt := tYes) rfl sc_law_due.nd (pi_list (pv 2)) (blkOk_by (N := N_law_due) (sc := defScope s_law_due) (by decide +kernel)) (fun _ _ _ _ _ => (pgn (i := 6) sc_law_due.nd)) (fun _ _ _ _ _ => pts_nil) (fun _ _ _ _ _ => (pe_ix (show IxR _ (rIxT K) from ix_tup) (pv 6) pe_int (fun _ _ => rfl))))) (pv 4))) (pgn (i := 10) sc_law_due.nd)
      (pss_one (ps_if (pt_cmpR op_notIn_seq (pv 10) (pv 5) rfl) (pss_one (ps_ret (pe_tup (pa_cons pe_str (pa_cons (pv 10) pa_nil))))) pss_nil)))
      (pss_cons (ps_if (PW.pt (pw_or (pt_cmpR op_gt (pe_callB cr_len (by rfl) T.f_len PySem.boot_len (pa_cons (pv 5) pa_nil)) pe_int (nomark _)) (pw_or1 (pt_cmpR op_gt (pe_op op_add (pe_callB cr_len (by rfl) T.f_len PySem.boot_len (pa_cons (pv 1) pa_nil)) (pe_callB cr_len (by rfl) T.f_len PySem.boot_len (pa_cons (pv 2) pa_nil))) pe_int (nomark _))))) (pss_one (ps_ret (pe_tup (pa_cons pe_str (pa_cons pe_str pa_nil))))) pss_nil)
      (pss_cons (pset (i := 11) sc_law_due.nd (pe_op op_catS (pv 1) (pe_lc (own := [("row", 6)]) (g := gName 6) (tt := tYes) rfl sc_law_due.nd (pi_list (pv 2)) (blkOk_by (N := N_law_due) (sc := defScope s_law_due) (by decide +kernel)) (fun _ _ _ _ _ => (pgn (i := 6) sc_law_due.nd)) (fun _ _ _ _ _ => pts_nil) (fun _ _ _ _ _ => (pe_ix (show IxR _ (rIxT K) from ix_tup) (pv 6) pe_int (fun _ _ => rfl))))))
      (pss_cons (ps_for PassesOwn.never rfl (pi_range1 rfl T.f_range (pa_cons (pe_callB cr_len (by rfl) T.f_len PySem.boot_len (pa_cons (pv 3) pa_nil)) pa_nil)) (pgn (i := 12) sc_law_due.nd)
      (pss_cons (ps_setLc (i := 13) (own := [("gate", 7)]) (g := gName 7) rfl sc_law_due.nd rfl rfl (sw_true rfl rfl rfl (by decide +kernel)) (pi_list (pv 3)) (blkOk_by (N := N_law_due) (sc := defScope s_law_due) (by decide +kernel)) (fun _ _ _ _ _ => (pgn (i := 7) sc_law_due.nd)) (fun _ _ _ _ _ => (pts_one (PW.pt (pw_and (pt_cmpR (show OpR _ _ (rIn K true) from op_notIn_seq) (pe_ix (show IxR _ (rIxT K) from ix_tup) (pv 7) pe_int (fun _ _ => rfl)) (pv 11) rfl) (pw_and1 (pt_val (pe_callB (show CallR _ _ (rAll K) from cr_all rfl) (by rfl) T.f_all (by decide +kernel) (pa_cons (pe_lc (own := [("pin", 14)]) (g := gName 14) (tt := tYes) rfl sc_law_due.nd (show PI _ _ _ (iTup K _) from (pi_tup (pe_ix (show IxR _ (rIxT K) from ix_tup) (pv 7) pe_int (fun _ _ => rfl)))) (blkOk_by (N := N_law_due) (by rfl)) (fun _ _ _ _ _ => (pgn (i := 14) sc_law_due.nd)) (fun _ _ _ _ _ => pts_nil) (fun _ _ _ _ _ => (pe_cmpR (show OpR _ _ (rIn K false) from op_in_seq) (pv 14) (pv 11) rfl))) pa_nil)))))))) (fun _ _ _ _ _ => (pe_ix (show IxR _ (rIxT K) from ix_tup) (pv 7) pe_int (fun _ _ => rfl))))
      (pss_cons (ps_if (pt_cmpR op_eq (pe_callB cr_len (by rfl) T.f_len PySem.boot_len (pa_cons (pv 13) pa_nil)) pe_int (nomark _)) (pss_one ps_break) pss_nil)
      (pss_one (pset (i := 11) sc_law_due.nd (pe_op op_catS (pv 11) (pv 13)))))))
      (pss_cons (ps_for PassesOwn.never rfl (pi_list (pv 3)) (pgn (i := 7) sc_law_due.nd)
      (pss_one (ps_if (pt_cmpR op_notIn_seq (pe_ix ix_tup (pv 7) pe_int (fun _ _ => rfl)) (pv 11) rfl) (pss_one (ps_ret (pe_tup (pa_cons pe_str (pa_cons (pe_ix ix_tup (pv 7) pe_int (fun _ _ => rfl)) pa_nil))))) pss_nil)))
      (pss_one (ps_ret pe_non))))))))))))), ?_⟩
  rintro ds r ⟨is, rs, gs, os, rfl, q, hr⟩
  rcases hr with ⟨hf, rfl⟩ | ⟨hf, c, rfl, rfl, rfl, rfl, ok, rfl⟩
  · left
    show Se P w K _ [.d _, .u, .u, .u, .u, .u, .u, .u, .u, .u, .u, .u, .u, .u, .u] _
    exact se_when (b := true) (te_p (tp_is (tp_not (tp_B (ep_call (ap_cons ep_var ap_nil) ⟨is, rs, gs, os, rfl, q, rfl⟩))) (by rw [hf]; rfl))) (fun _ => se_seqF (se_ret (ee_p (by walk_at "ep")))) (fun z => nomatch z)
  left
  obtain ⟨o1, o2, o3, o4, o5⟩ := id ok
  show Se P w K _ [.d (p4 (c.is.map .str) (c.rs.map regD) (c.gs.map Gt.d) (c.os.map .str)), .u, .u, .u, .u, .u, .u, .u, .u, .u, .u, .u, .u, .u, .u] _
  refine se_when (b := false) (te_p (tp_is (tp_not (tp_B (ep_call (ap_cons ep_var ap_nil) ⟨_, _, _, _, rfl, q, rfl⟩))) (by rw [hf]; rfl))) (fun z => nomatch z) (fun _ => ?_)
  refine se_seq (se_asgG (ee_p ep_var) (ge_tup (gs_cons ge_name (gs_cons ge_name (gs_cons ge_name (gs_cons ge_name gs_nil)))))) ?_
  have hll : (linesOf c.is c.rs c.gs).length = c.is.length + c.rs.length + c.gs.length := by
    unfold linesOf srcOf
    simp
    omega
  have hfl := flat_len c.gs o5
  generalize hL : linesOf c.is c.rs c.gs = L at hll
  refine se_seq (se_asg (d := .lst (L.map .str)) (ee_p (ep_is (ep_op (d := .lst ((srcOf c.is c.rs).map .str)) (e := .lst ((c.gs.map Gt.l).map .str)) (ep_is (ep_op (d := .lst (c.is.map .str)) (e := .lst ((c.rs.map Prod.fst).map .str)) (ep_var rfl) (ep_is (ep_new (np_mapT c.rs regD (ip_list (ep_var rfl)) (by omega) (fun r => .str r.1) fun i r _ => ep_op ep_var ep_int (itm (i := 0) rfl))) (by rw [List.map_map]; rfl)) (r2_cat (by simp; omega))) (by unfold srcOf; rw [List.map_append])) (ep_is (ep_new (np_mapT c.gs Gt.d (ip_list (ep_var rfl)) (by omega) (fun g => .str g.l) fun i g _ => ep_op ep_var ep_int (itm (i := 0) rfl))) (by rw [List.map_map]; rfl)) (r2_cat (by unfold srcOf; simp; omega))) (by rw [← hL]; unfold linesOf; rw [List.map_append])))) ?_
  let B : En := [.d (p4 (c.is.map .str) (c.rs.map regD) (c.gs.map Gt.d) (c.os.map .str)), .d (.lst (c.is.map .str)), .d (.lst (c.rs.map regD)), .d (.lst (c.gs.map Gt.d)), .d (.lst (c.os.map .str)), .d (.lst (L.map .str)), .x, .x, .x, .x, .x, .x, .x, .x, .x]
  have hdue : dueC c = (match (List.range L.length).find? fun k => decide (L.getD k "" ∈ L.take k) with
    | some k => two "twice" (L.getD k "")
    | none => match (usesOf c).find? fun y => !decide (y ∈ L) with
      | some y => two "unknown" y
      | none => if 400 < L.length ∨ 40 < c.is.length + c.rs.length then two "size" "" else
        match c.gs.find? fun g => !decide (g.l ∈ clos c.gs c.gs.length (srcOf c.is c.rs)) with
        | some g => two "loop" g.l
        | none => .non) := by rw [← hL]; rfl
  refine se_first (List.range L.length) (fun k => Dt.int (k : Int)) (fun k => decide (L.getD k "" ∈ L.take k)) (fun k => two "twice" (L.getD k "")) ?_ B (Le.s (Le.s (Le.s (Le.s (Le.s (Le.s (Le.x (Le.x (Le.x (Le.x (Le.x (Le.x (Le.x (Le.x (Le.x Le.nil))))))))))))))) (fun k hk => ⟨_, ge_name, ?_⟩) (fun hnone => ?_) (fun k hk => by rw [hdue, hk])
  · rw [← Pw.rangeD_nat]
    exact ip_rng1 (ap_cons (ep_is (ep_cb (ap_cons (ep_var rfl) ap_nil) rl_len) (by rw [List.length_map])) ap_nil) (by omega)
  · have hk := List.mem_range.mp hk
    have eK : ∀ {en : En}, en[5]? = some (.d (.lst (L.map .str))) → en[8]? = some (.d (.int (k : Int))) → Ep P w K (tOp (rIxL K) (tVar 5) (tVar 8)) en (.str (L.getD k "")) := fun h1 h2 => ep_op (ep_var h1) (ep_var h2) (r2_ixL (ixN_nat (by simpa using hk)) (by rw [List.getElem?_map, itemD (l := L) "" hk]; rfl))
    have tst : ∀ {en : En}, en[5]? = some (.d (.lst (L.map .str))) → en[8]? = some (.d (.int (k : Int))) → Tp P w K (tTest (tOp (rIn K false) (tOp (rIxL K) (tVar 5) (tVar 8)) (tSl (rSlL K) (tVar 5) tNoPart (tPart (tVar 8))))) en (decide (L.getD k "" ∈ L.take k)) := fun h1 h2 => tp_test (ep_op (eK h1 h2) (ep_is (ep_new (np_slL (ep_var h1) qo_none (qo_some (ep_var h2)))) (e := .lst ((L.take k).map .str)) (by rw [cut_take _ _ (by rw [List.length_map]; omega), List.map_take])) (in_strs _ _))
    refine ⟨fun hp => ?_, fun hp => ?_⟩
    · exact se_if (te_p (tst rfl rfl)) (fun _ => se_ret (ee_p (ep_tup (ap_cons ep_str (ap_cons (eK rfl rfl) ap_nil))))) (fun z => by rw [hp] at z; cases z)
    · exact se_nc (se_le (se_if (te_p (tst rfl rfl)) (fun z => by rw [hp] at z; cases z) (fun _ => se_next)) (Le.s (Le.s (Le.s (Le.s (Le.s (Le.s (Le.s (Le.s (Le.x (Le.s (Le.s (Le.s (Le.s (Le.s (Le.s Le.nil))))))))))))))))
  rw [hdue, hnone]
  show Se P w K _ B (.rt (match (usesOf c).find? fun y => !decide (y ∈ L) with
      | some y => two "unknown" y
      | none => if 400 < L.length ∨ 40 < c.is.length + c.rs.length then two "size" "" else
        match c.gs.find? fun g => !decide (g.l ∈ clos c.gs c.gs.length (srcOf c.is c.rs)) with
        | some g => two "loop" g.l
        | none => .non))
  refine se_seq (se_asg (d := .lst []) (ee_p (ep_lst ap_nil))) ?_
  let B9 : List Str → En := fun u => [.d (p4 (c.is.map .str) (c.rs.map regD) (c.gs.map Gt.d) (c.os.map .str)), .d (.lst (c.is.map .str)), .d (.lst (c.rs.map regD)), .d (.lst (c.gs.map Gt.d)), .d (.lst (c.os.map .str)), .d (.lst (L.map .str)), .x, .x, .x, .d (.lst (u.map .str)), .x, .x, .x, .x, .x]
  refine se_seq (env1 := B9 (c.gs.flatMap Gt.ps)) (se_is (se_fold c.gs Gt.d rfl (ip_list (ep_var rfl)) B9 (fun u g => u ++ g.ps) (fun u pre => u.length ≤ 4 * pre.length) [] (Le.s (Le.s (Le.s (Le.s (Le.s (Le.s (Le.s (Le.s (Le.s (Le.s (Le.s (Le.s (Le.s (Le.s (Le.s Le.nil))))))))))))))) (by simp) (fun u pre g post hx hp => ?_)) (by rw [ap_flat]; rfl)) ?_
  · have hgm : g ∈ c.gs := by rw [hx]; simp
    have h4 := o5 g hgm
    have hpl : pre.length < 1000 := by
      have := congrArg List.length hx
      simp at this
      omega
    refine ⟨by simp; omega, _, ge_name, ?_⟩
    refine se_nc (se_le (se_asg (d := .lst ((u ++ g.ps).map .str)) (ee_p (ep_is (ep_op (ep_var rfl) (ep_new (np_cb (ap_cons (ep_op (d := g.d) (ep_var rfl) ep_int (itm (i := 2) rfl)) ap_nil) rn_listT)) (r2_cat (by simp; omega))) (by rw [List.map_append])))) (Le.s (Le.s (Le.s (Le.s (Le.s (Le.s (Le.s (Le.x (Le.s (Le.s (Le.s (Le.s (Le.s (Le.s (Le.s Le.nil))))))))))))))))
  have hul : (usesOf c).length ≤ 6000 := by
    unfold usesOf
    simp
    simp at hfl
    omega
  refine se_first (usesOf c) Dt.str (fun y => !decide (y ∈ L)) (fun y => two "unknown" y) ?_ (B9 (c.gs.flatMap Gt.ps)) (Le.s (Le.s (Le.s (Le.s (Le.s (Le.s (Le.s (Le.s (Le.s (Le.s (Le.s (Le.s (Le.s (Le.s (Le.s Le.nil))))))))))))))) (fun y hy => ⟨_, ge_name, fun hp => ?_, fun hp => ?_⟩) (fun hnone2 => ?_) (fun y hy => by rw [hy])
  · refine ip_list (ep_is (ep_op (d := .lst ((c.gs.flatMap Gt.ps ++ c.rs.map Prod.snd).map .str)) (e := .lst (c.os.map .str)) (ep_is (ep_op (d := .lst ((c.gs.flatMap Gt.ps).map .str)) (e := .lst ((c.rs.map Prod.snd).map .str)) (ep_var rfl) (ep_is (ep_new (np_mapT c.rs regD (ip_list (ep_var rfl)) (by omega) (fun r => .str r.2) fun i r _ => ep_op ep_var ep_int (itm (i := 1) rfl))) (by rw [List.map_map]; rfl)) (r2_cat (by rw [List.length_map, List.length_map, List.length_map]; omega))) (by rw [List.map_append])) (ep_var rfl) (r2_cat (by rw [List.length_map, List.length_append, List.length_map, List.length_map]; omega))) (by unfold usesOf; rw [List.map_append (l₂ := c.os)]))
  · exact se_if (b := true) (te_p (tp_is (tp_test (ep_op (ep_var rfl) (ep_var rfl) (notin_strs y L))) hp)) (fun _ => se_ret (ee_p (by walk_at "ep"))) (fun z => nomatch z)
  · exact se_nc (se_le (se_if (b := false) (te_p (tp_is (tp_test (ep_op (ep_var rfl) (ep_var rfl) (notin_strs y L))) hp)) (fun z => nomatch z) (fun _ => se_next)) (Le.s (Le.s (Le.s (Le.s (Le.s (Le.s (Le.s (Le.s (Le.s (Le.s (Le.x (Le.s (Le.s (Le.s (Le.s Le.nil))))))))))))))))
  rw [hnone2]
  refine se_when (b := decide (400 < L.length ∨ 40 < c.is.length + c.rs.length)) (te_p (tp_is (tp_or (tp_test (ep_op (ep_cb (ap_cons (ep_var rfl) ap_nil) rl_len) ep_int r2_B0)) fun _ => tp_test (ep_op (ep_op (ep_cb (ap_cons (ep_var rfl) ap_nil) rl_len) (ep_cb (ap_cons (ep_var rfl) ap_nil) rl_len) r2_I0) ep_int r2_B0)) ?_)) (fun hb => ?_) (fun hb => ?_)
  · simp only [List.length_map]
    rw [← Bool.decide_or]
    exact decide_eq_decide.mpr (by omega)
  · show Se P w K _ _ (.rt (if 400 < L.length ∨ 40 < c.is.length + c.rs.length then two "size" "" else _))
    rw [if_pos (of_decide_eq_true hb)]
    exact se_seqF (se_ret (ee_p (by walk_at "ep")))
  have hb := of_decide_eq_false hb
  show Se P w K _ _ (.rt (if 400 < L.length ∨ 40 < c.is.length + c.rs.length then two "size" "" else _))
  rw [if_neg hb]
  have hs1 : (srcOf c.is c.rs).length = c.is.length + c.rs.length := by unfold srcOf; simp
  refine se_seq (se_asg (d := .lst ((srcOf c.is c.rs).map .str)) (ee_p (ep_is (ep_op (d := .lst (c.is.map .str)) (e := .lst ((c.rs.map Prod.fst).map .str)) (ep_var rfl) (ep_is (ep_new (np_mapT c.rs regD (ip_list (ep_var rfl)) (by omega) (fun r => .str r.1) fun i r _ => ep_op ep_var ep_int (itm (i := 0) rfl))) (by rw [List.map_map]; rfl)) (r2_cat (by simp; omega))) (by unfold srcOf; rw [List.map_append])))) ?_
  let B11 : List Str → En := fun k => [.d (p4 (c.is.map .str) (c.rs.map regD) (c.gs.map Gt.d) (c.os.map .str)), .d (.lst (c.is.map .str)), .d (.lst (c.rs.map regD)), .d (.lst (c.gs.map Gt.d)), .d (.lst (c.os.map .str)), .d (.lst (L.map .str)), .x, .x, .x, .x, .x, .d (.lst (k.map .str)), .x, .x, .x]
  generalize hS : srcOf c.is c.rs = S0 at hs1
  have item0 : ∀ {en : En} {g : Gt}, en[7]? = some (.d g.d) → Ep P w K (tOp (rIxT K) (tVar 7) (tC (.int 0))) en (.str g.l) := fun h => ep_op (ep_var h) ep_int (itm (i := 0) rfl)
  have item2 : ∀ {en : En} {g : Gt}, en[7]? = some (.d g.d) → Ep P w K (tOp (rIxT K) (tVar 7) (tC (.int 2))) en (.tup (g.ps.map .str)) := fun h => ep_op (ep_var h) ep_int (itm (i := 2) rfl)
  have hkn : ∀ n : Nat, (clos c.gs n S0).length ≤ 3000 := fun n => by
    have := clos_len2 c.gs n S0
    omega
  have hbody : ∀ k : List Str, k.length ≤ 3000 → ∀ i : Int, EpN P w K (tLc (iList K (tVar 3)) (gName 7) (tAnd (tTest (tOp (rIn K true) (tOp (rIxT K) (tVar 7) (tC (.int 0))) (tVar 11))) (tB (tCB (rAll K) (tCons (tLc (iTup K (tOp (rIxT K) (tVar 7) (tC (.int 2)))) (gName 14) tYes (tOp (rIn K false) (tVar 14) (tVar 11)) [14]) tNil)))) (tOp (rIxT K) (tVar 7) (tC (.int 0))) [7]) ((B11 k).set 12 (.d (.int i))) ((fresh c.gs k).map .str) := fun k hk i => by
    have h := np_filT (P := P) (w := w) (K := K) (te := tOp (rIxT K) (tVar 7) (tC (.int 0))) (wi := iList K (tVar 3)) (env := (B11 k).set 12 (.d (.int i))) (tt := tAnd (tTest (tOp (rIn K true) (tOp (rIxT K) (tVar 7) (tC (.int 0))) (tVar 11))) (tB (tCB (rAll K) (tCons (tLc (iTup K (tOp (rIxT K) (tVar 7) (tC (.int 2)))) (gName 14) tYes (tOp (rIn K false) (tVar 14) (tVar 11)) [14]) tNil)))) (j := 7) c.gs Gt.d (ip_list (ep_var rfl)) (by omega) (fun g => !decide (g.l ∈ k) && g.ps.all fun p => decide (p ∈ k)) (fun g => .str g.l) (fun i g hg => tp_and (tp_test (ep_op (item0 rfl) (ep_var rfl) (notin_strs g.l k))) fun _ => tp_B (ep_is (ep_cb (ap_cons (ep_is (ep_new (np_mapT g.ps Dt.str (ip_tup (item2 rfl)) (by have := o5 g (List.mem_of_getElem? hg); omega) (fun p => .bl (decide (p ∈ k))) fun i p hip => ep_op (ep_var rfl) (ep_var rfl) (in_strs p k))) (e := .lst ((g.ps.map fun p => decide (p ∈ k)).map .bl)) (by rw [List.map_map]; rfl)) ap_nil) rl_all) (by rw [List.all_map]; rfl))) (fun i g hg _ => item0 rfl)
    have e : (fresh c.gs k).map Dt.str = (c.gs.filter fun g => !decide (g.l ∈ k) && g.ps.all fun p => decide (p ∈ k)).map fun g => .str g.l := by
      unfold fresh
      rw [List.map_map]
      rfl
    rw [e]
    exact h
  have hstep : ∀ k : List Str, k.length ≤ 3000 → ∀ i : Int, ¬ fresh c.gs k = [] → (k ++ fresh c.gs k).length ≤ 3000 → Se P w K (tSeq (tAsg (tLc (iList K (tVar 3)) (gName 7) (tAnd (tTest (tOp (rIn K true) (tOp (rIxT K) (tVar 7) (tC (.int 0))) (tVar 11))) (tB (tCB (rAll K) (tCons (tLc (iTup K (tOp (rIxT K) (tVar 7) (tC (.int 2)))) (gName 14) tYes (tOp (rIn K false) (tVar 14) (tVar 11)) [14]) tNil)))) (tOp (rIxT K) (tVar 7) (tC (.int 0))) [7]) (gName 13)) (tSeq (tIfS (tTest (tOp rEq (tCB (rLenS K) (tCons (tVar 13) tNil)) (tC (.int 0)))) tBreak tNext) (tAsg (tOp (rCatR K) (tVar 11) (tVar 13)) (gName 11)))) ((B11 k).set 12 (.d (.int i))) (.nc (B11 (k ++ fresh c.gs k))) := fun k hk i hne hl2 => by
    refine se_seq (se_asg (ee_p (ep_new (hbody k hk i)))) ?_
    refine se_when (b := decide (((fresh c.gs k).map Dt.str).length = (0 : Int))) (te_p (tp_test (ep_op (ep_cb (ap_cons (ep_var rfl) ap_nil) rl_len) ep_int r2_eqI))) (fun hb => ?_) (fun hb => ?_)
    · have hb := of_decide_eq_true hb
      rw [List.length_map] at hb
      exact absurd (List.length_eq_zero_iff.mp (by omega)) hne
    · refine se_nc (se_le (se_asg (d := .lst ((k ++ fresh c.gs k).map .str)) (ee_p (ep_is (ep_op (ep_var rfl) (ep_var rfl) (r2_cat (by rw [List.length_map, List.length_map, ← List.length_append]; omega))) (by rw [List.map_append])))) (Le.s (Le.s (Le.s (Le.s (Le.s (Le.s (Le.s (Le.s (Le.s (Le.s (Le.s (Le.s (Le.x (Le.x (Le.s Le.nil))))))))))))))))
  have hstop : ∀ k : List Str, k.length ≤ 3000 → ∀ i : Int, fresh c.gs k = [] → Se P w K (tSeq (tAsg (tLc (iList K (tVar 3)) (gName 7) (tAnd (tTest (tOp (rIn K true) (tOp (rIxT K) (tVar 7) (tC (.int 0))) (tVar 11))) (tB (tCB (rAll K) (tCons (tLc (iTup K (tOp (rIxT K) (tVar 7) (tC (.int 2)))) (gName 14) tYes (tOp (rIn K false) (tVar 14) (tVar 11)) [14]) tNil)))) (tOp (rIxT K) (tVar 7) (tC (.int 0))) [7]) (gName 13)) (tSeq (tIfS (tTest (tOp rEq (tCB (rLenS K) (tCons (tVar 13) tNil)) (tC (.int 0)))) tBreak tNext) (tAsg (tOp (rCatR K) (tVar 11) (tVar 13)) (gName 11)))) ((B11 k).set 12 (.d (.int i))) (.bk (B11 k)) := fun k hk i he => by
    refine se_seq (se_asg (ee_p (ep_new (hbody k hk i)))) ?_
    rw [he]
    refine se_when (b := true) (te_p (tp_is (tp_test (ep_op (ep_cb (ap_cons (ep_var rfl) ap_nil) rl_len) ep_int r2_eqI)) rfl)) (fun _ => ?_) (fun z => nomatch z)
    refine se_seqF (o := .bk (B11 k)) (fun F0 H0 F H σ D S p => p F H σ (Ex.refl F) (S.le (Le.s (Le.s (Le.s (Le.s (Le.s (Le.s (Le.s (Le.s (Le.s (Le.s (Le.s (Le.s (Le.x (Le.x (Le.s Le.nil)))))))))))))))))
  refine se_seq (env1 := B11 (clos c.gs c.gs.length S0)) ?_ ?_
  · have hI : Ip P w K (iRng1 (tCons (tCB (rLenS K) (tCons (tVar 3) tNil)) tNil)) ((B9 (c.gs.flatMap Gt.ps)).set 11 (.d (.lst (S0.map .str)))) ((List.range c.gs.length).map fun i : Nat => Dt.int (i : Int)) := by
      rw [← Pw.rangeD_nat]
      exact ip_rng1 (ap_cons (ep_is (ep_cb (ap_cons (ep_var rfl) ap_nil) rl_len) (by rw [List.length_map])) ap_nil) (by omega)
    have h00 : Le ((B9 (c.gs.flatMap Gt.ps)).set 11 (.d (.lst (S0.map .str)))) (B11 (clos c.gs 0 S0)) := Le.s (Le.s (Le.s (Le.s (Le.s (Le.s (Le.s (Le.s (Le.s (Le.x (Le.s (Le.s (Le.s (Le.s (Le.s Le.nil))))))))))))))
    have hget : ∀ (i : Nat) (d : Dt), ((List.range c.gs.length).map fun i : Nat => Dt.int (i : Int))[i]? = some d → d = .int (i : Int) := fun i d hd => by
      rw [List.getElem?_map] at hd
      obtain ⟨a, ha, rfl⟩ := Option.map_eq_some_iff.mp hd
      have hi := (List.getElem?_eq_some_iff.mp ha).1
      rw [List.length_range] at hi
      rw [List.getElem?_range hi] at ha
      rw [← Option.some.inj ha]
    cases hfd : (List.range c.gs.length).find? fun i => decide (fresh c.gs (clos c.gs i S0) = []) with
    | none =>
      have hn := List.find?_eq_none.mp hfd
      refine se_for (ie_p hI) (fun i => B11 (clos c.gs i S0)) c.gs.length (by simp) h00 (fun i d hi hd => ⟨_, ge_name, ?_⟩) (.inl ⟨by simp, rfl⟩)
      rw [hget i d hd, clos_succ]
      refine hstep _ (hkn i) _ (fun z => hn i (List.mem_range.mpr hi) (decide_eq_true z)) ?_
      rw [← clos_succ]
      exact hkn (i + 1)
    | some a =>
      obtain ⟨i, h1, h2, h3⟩ := first_at hfd
      have hi := (List.getElem?_eq_some_iff.mp h1).1
      rw [List.length_range] at hi
      rw [List.getElem?_range hi] at h1
      obtain rfl := Option.some.inj h1
      have h2 : fresh c.gs (clos c.gs i S0) = [] := of_decide_eq_true h2
      have hfix : clos c.gs c.gs.length S0 = clos c.gs i S0 := by
        obtain ⟨m, hm⟩ := Nat.exists_eq_add_of_le (Nat.le_of_lt hi)
        rw [hm, clos_add]
        exact clos_fix c.gs h2 m
      refine se_for (ie_p hI) (fun i => B11 (clos c.gs i S0)) i (by simp; omega) h00 (fun j d hj hd => ⟨_, ge_name, ?_⟩) (.inr ⟨.int (i : Int), _, ?_, ge_name, .inr ⟨_, by rw [hfix], hstop _ (hkn i) _ h2⟩⟩)
      · rw [hget j d hd, clos_succ]
        refine hstep _ (hkn j) _ (fun z => ?_) ?_
        · have := h3 j j hj (List.getElem?_range (by omega))
          rw [decide_eq_true z] at this
          cases this
        · rw [← clos_succ]
          exact hkn (j + 1)
      · rw [List.getElem?_map, List.getElem?_range hi]
        rfl
  · refine se_first c.gs Gt.d (fun g => !decide (g.l ∈ clos c.gs c.gs.length S0)) (fun g => two "loop" g.l) (ip_list (ep_var rfl)) (B11 (clos c.gs c.gs.length S0)) (Le.s (Le.s (Le.s (Le.s (Le.s (Le.s (Le.s (Le.s (Le.s (Le.s (Le.s (Le.s (Le.s (Le.s (Le.s Le.nil))))))))))))))) (fun g hg => ⟨_, ge_name, fun hp => ?_, fun hp => ?_⟩) (fun hn => by rw [hn]; exact se_ret (ee_p ep_non)) (fun g hg => by rw [hg])
    · exact se_if (b := true) (te_p (tp_is (tp_test (ep_op (item0 rfl) (ep_var rfl) (notin_strs g.l _))) hp)) (fun _ => se_ret (ee_p (ep_tup (ap_cons ep_str (ap_cons (item0 rfl) ap_nil))))) (fun z => nomatch z)
    · exact se_nc (se_le (se_if (b := false) (te_p (tp_is (tp_test (ep_op (item0 rfl) (ep_var rfl) (notin_strs g.l _))) hp)) (fun z => nomatch z) (fun _ => se_next)) (Le.s (Le.s (Le.s (Le.s (Le.s (Le.s (Le.s (Le.x (Le.s (Le.s (Le.s (Le.s (Le.s (Le.s (Le.s Le.nil))))))))))))))))
end
end CC

set_option maxHeartbeats 400000
namespace CC
open PySem PySem.Spec PyProof.Rows L2 Qw
open Evl hiding ea_cons
open Pw (Dt Rp RpL Wk R2d R1d RLd RLn Kq KqL truD flatD fl py pyL rangeD charsD spX2 Xm Xm0 tyD isI isB isS isTp isL rl_isInt rl_isBool rl_isStr rl_isTup rl_isList rl_int rl_max2 rl_min2 rl_len rl_lenT rl_tup rl_tupT rl_lenS rl_all rl_any rn_list rn_listT r2_I0 r2_B0 r2_eqI r2_neI r2_eqS r2_neS r2_eq r2_ne r2_I r2_inS r2_niS r2_in r2_inT r2_ixL r2_ixT r2_ixS r2_addS r2_eqD r2_neD r2_ixM r1_U ixN_at itemD cr_int cr_min2 cr_max2 cr_list cr_tuple cr_len pe_globI pe_globS pe_globR pe_tyname rTupS rInt1 rMin2)
local macro_rules | `(tactic| walk_at "side") => `(tactic| first
  | decide | omega | assumption | (show (0 : Int) < _; omega) | exact (show CDiv _ _ from ⟨by omega, by omega⟩) | exact (show CMul _ _ from Or.inr ⟨by omega, by omega⟩) | exact (show CMul _ _ from Or.inl ⟨by omega, by omega⟩) | exact (show CPow _ _ from ⟨by decide, by decide, by decide⟩))
local macro_rules | `(tactic| walk_at "op") => `(tactic| first
  | exact r2_I0 | exact r2_B0 | exact r2_eqI | exact r2_neI | exact r2_eqS | exact r2_neS
  | exact r2_eq rfl rfl rfl | exact r2_ne rfl rfl rfl
  | (refine' r2_I ?_; walk_at "side") | exact r2_inS | exact r2_niS)
local macro_rules | `(tactic| walk_at "rl") => `(tactic| first
  | exact rl_int | exact rl_max2 | exact rl_min2 | exact rl_len | exact rl_lenT | exact rl_isInt (by first | rfl | assumption) | exact rl_isBool (by first | rfl | assumption) | exact rl_isStr (by first | rfl | assumption) | exact rl_isTup (by first | rfl | assumption) | exact rl_isList (by first | rfl | assumption) | exact rl_tup | exact rl_tupT | (refine' rl_lenS ?_; walk_at "side"))
local macro_rules | `(tactic| walk_at "ap") => `(tactic| first
  | exact ap_nil
  | (refine' ap_cons ?eah ?eat; (case eah => walk_at "ep"); (case eat => walk_at "ap")))
local macro_rules | `(tactic| walk_at "ep") => `(tactic| first
  | exact ep_int | exact ep_bl | exact ep_str | exact ep_non | exact ep_ty | exact ep_var
  | (refine' ep_op ?eva ?evb ?evc; (case eva => walk_at "ep"); (case evb => walk_at "ep"); (case evc => walk_at "op"))
  | (refine' ep_cb ?evd ?eve; (case evd => walk_at "ap"); (case eve => walk_at "rl"))
  | (refine' ep_un ?evf r1_U; (case evf => walk_at "ep"))
  | (refine' ep_tup ?evg ?evi; (case evg => walk_at "ap"); (case evi => exact Nat.le_of_ble_eq_true rfl))
  | (refine' ep_lst ?evh ?evj; (case evh => walk_at "ap"); (case evj => exact Nat.le_of_ble_eq_true rfl))
  | assumption)
local macro_rules | `(tactic| walk_at "ee") => `(tactic| (refine' ee_p ?eep; (case eep => walk_at "ep")))
local macro_rules | `(tactic| walk_at "te") => `(tactic| (refine' te_p ?tep; (case tep => walk_at "tp")))
local macro_rules | `(tactic| walk_at "tp") => `(tactic| first
  | (refine' tp_test ?tea; (case tea => walk_at "ep"))
  | (refine' tp_B ?teb; (case teb => walk_at "ep"))
  | (refine' tp_not ?tec; (case tec => walk_at "tp"))
  | (refine' tp_or ?ted ?tee; (case ted => walk_at "tp"); (case tee => intro _; walk_at "tp"))
  | (refine' tp_and ?tef ?teg; (case tef => walk_at "tp"); (case teg => intro _; walk_at "tp"))
  | assumption)
section
variable {P : Program} {w : World} {K : PySem.W.Frag} {mg : Str → Option Value} {base : Heap}

/-! ### what is told is what is due -/
theorem nodup_of_dup {L : List Str} (h : dupOf [] L = none) : L.Nodup := by
  rcases dup_spec L [] with ⟨_, h2⟩ | ⟨i, x, h1, _⟩
  · refine List.pairwise_iff_getElem.mpr fun i j hi hj hij e => ?_
    refine h2 j L[j] (List.getElem?_eq_getElem hj) ?_
    rw [List.nil_append, ← e]
    refine List.mem_of_getElem? (i := i) ?_
    rw [List.getElem?_take, if_pos hij]
    exact List.getElem?_eq_getElem hi
  · rw [h] at h1
    cases h1
theorem dup_find (L : List Str) : ((List.range L.length).find? fun k => decide (L.getD k "" ∈ L.take k)).map (fun k => L.getD k "") = dupOf [] L := by
  have hg : ∀ (i : Nat) x, L[i]? = some x → L.getD i "" = x := fun i x h => by rw [List.getD_eq_getElem?_getD, h]; rfl
  rcases dup_spec L [] with ⟨h1, h2⟩ | ⟨i, x, h1, h2, h3, h4⟩
  · rw [h1, List.find?_eq_none.mpr fun k hk => ?_]
    · rfl
    · have hk := List.mem_range.mp hk
      have := h2 k _ (itemD (l := L) "" hk)
      simpa using this
  · have hi := (List.getElem?_eq_some_iff.mp h2).1
    have hf : ((List.range L.length).find? fun k => decide (L.getD k "" ∈ L.take k)) = some i := by
      rw [List.find?_range_eq_some]
      refine ⟨?_, List.mem_range.mpr hi, fun j hj => ?_⟩
      · rw [hg i x h2]
        exact decide_eq_true (by simpa using h3)
      · have hjl : j < L.length := by omega
        have := h4 j _ hj (itemD (l := L) "" hjl)
        simpa using this
    rw [h1, hf]
    exact congrArg some (hg i x h2)
theorem opass_sub : ∀ (ws : List Gt) (s : Os), (ws.foldl ostep s).le.Sublist (s.le ++ ws)
  | [], s => by simp
  | g :: ws, s => by
    rw [List.foldl_cons]
    refine (opass_sub ws (ostep s g)).trans ?_
    unfold ostep
    split
    · exact List.Sublist.append (List.Sublist.refl _) (List.sublist_cons_self _ _)
    · show ((s.le ++ [g]) ++ ws).Sublist _
      rw [List.append_assoc]
      exact List.Sublist.refl _
theorem ordN_end {src : List Str} {gs : List Gt} : ∀ (n : Nat) (k : List Str) (fo ws : List Gt), ws.length ≤ n → OI src gs k fo ws → ws.Sublist gs →
    (∃ k' fo', ordN n k fo ws = .ok (k', fo') ∧ OI src gs k' fo' []) ∨ (∃ k' fo' g ws', ordN n k fo ws = .error g.l ∧ OI src gs k' fo' (g :: ws') ∧ (g :: ws').Sublist gs ∧ ∀ h ∈ g :: ws', ¬ ∀ p ∈ h.ps, p ∈ k')
  | n, k, fo, [], _, h, _ => .inl ⟨k, fo, by cases n <;> rfl, h⟩
  | 0, _, _, g :: ws, hn, _, _ => by simp at hn
  | n + 1, k, fo, g :: ws, hn, h, hs => by
    have hsub : (opass k fo (g :: ws)).le.Sublist (g :: ws) := by
      exact opass_sub (g :: ws) ⟨k, fo, []⟩
    by_cases e : (opass k fo (g :: ws)).le.length = (g :: ws).length
    · have hle : (opass k fo (g :: ws)).le = g :: ws := hsub.eq_of_length e
      have e1 : ordN (n + 1) k fo (g :: ws) = .error (((opass k fo (g :: ws)).le.head?.map Gt.l).getD "") := if_pos e
      rw [hle] at e1
      refine .inr ⟨k, fo, g, ws, e1, h, hs, fun x hx hp => ?_⟩
      have := opass_less (k := k) (fo := fo) hx hp
      omega
    · have e1 : ordN (n + 1) k fo (g :: ws) = ordN n (opass k fo (g :: ws)).kn (opass k fo (g :: ws)).fo (opass k fo (g :: ws)).le := if_neg e
      rw [e1]
      have hoi : OI src gs (opass k fo (g :: ws)).kn (opass k fo (g :: ws)).fo (opass k fo (g :: ws)).le := opass_oi (g :: ws) ⟨k, fo, []⟩ h
      have hl := hsub.length_le
      exact ordN_end n _ _ _ (by simp at hn hl e; omega) hoi (hsub.trans hs)
theorem clos_sub (gs : List Gt) : ∀ (n : Nat) (k : List Str), ∀ x ∈ k, x ∈ clos gs n k
  | 0, _, _, h => h
  | n + 1, k, x, h => clos_sub gs n _ x (List.mem_append_left _ h)
theorem clos_min (gs : List Gt) (S : Str → Prop) (hc : ∀ g ∈ gs, (∀ p ∈ g.ps, S p) → S g.l) : ∀ (n : Nat) (k : List Str), (∀ x ∈ k, S x) → ∀ x ∈ clos gs n k, S x
  | 0, _, h, x, hx => h x hx
  | n + 1, k, h, x, hx => by
    refine clos_min gs S hc n (k ++ fresh gs k) (fun y hy => ?_) x hx
    rcases List.mem_append.mp hy with hy | hy
    · exact h y hy
    · obtain ⟨g, hg, rfl⟩ := List.mem_map.mp hy
      obtain ⟨h1, h2⟩ := List.mem_filter.mp hg
      simp only [Bool.and_eq_true, List.all_eq_true, decide_eq_true_eq] at h2
      exact hc g h1 fun p hp => h p (h2.2 p hp)
theorem fresh_nil_of {gs : List Gt} {k : List Str} (h : ∀ g ∈ gs, g.l ∈ k) : fresh gs k = [] := by
  unfold fresh
  rw [List.map_eq_nil_iff, List.filter_eq_nil_iff]
  intro g hg
  simp [h g hg]
theorem clos_stop (gs : List Gt) (k : List Str) : ∀ n : Nat, miss gs (clos gs n k) + n ≤ miss gs k ∨ fresh gs (clos gs n k) = []
  | 0 => .inl (Nat.le_refl _)
  | n + 1 => by
    rw [clos_succ]
    by_cases e : fresh gs (clos gs n k) = []
    · rw [e, List.append_nil]
      exact .inr e
    · rcases clos_stop gs k n with h | h
      · left
        have h1 := fresh_miss gs (clos gs n k)
        rw [List.length_append] at h1
        have h2 : 0 < (fresh gs (clos gs n k)).length := List.length_pos_iff.mpr e
        omega
      · exact absurd h e
theorem clos_closed (gs : List Gt) (k : List Str) : ∀ g ∈ gs, (∀ p ∈ g.ps, p ∈ clos gs gs.length k) → g.l ∈ clos gs gs.length k := by
  have hz : fresh gs (clos gs gs.length k) = [] := by
    rcases clos_stop gs k gs.length with h | h
    · have h2 : miss gs k ≤ gs.length := List.length_filter_le _ _
      have h3 : miss gs (clos gs gs.length k) = 0 := by omega
      refine fresh_nil_of fun g hg => ?_
      unfold miss at h3
      have := List.filter_eq_nil_iff.mp (List.length_eq_zero_iff.mp h3) g hg
      simpa using this
    · exact h
  intro g hg hp
  unfold fresh at hz
  rw [List.map_eq_nil_iff, List.filter_eq_nil_iff] at hz
  have := hz g hg
  simp only [Bool.and_eq_true, List.all_eq_true, decide_eq_true_eq, not_and] at this
  by_cases e : g.l ∈ clos gs gs.length k
  · exact e
  · exact absurd hp (this (by simp [e]))
theorem ordd_clos {src : List Str} {gs fo : List Gt} (h : Ordd src fo) (hg : ∀ g ∈ fo, g ∈ gs) : ∀ g ∈ fo, g.l ∈ clos gs gs.length src := by
  have key : ∀ (n : Nat) (pre post : List Gt), pre.length = n → fo = pre ++ post → ∀ g ∈ pre, g.l ∈ clos gs gs.length src := by
    intro n
    induction n with
    | zero =>
      intro pre post hn _ g hp
      rw [List.length_eq_zero_iff.mp hn] at hp
      cases hp
    | succ n ih =>
      intro pre post hn e g hp
      rcases List.eq_nil_or_concat pre with rfl | ⟨pre', z, rfl⟩
      · cases hp
      · rw [List.concat_eq_append] at hn e hp
        have hn' : pre'.length = n := by simpa using hn
        have e' : fo = pre' ++ (z :: post) := by rw [e, List.append_assoc]; rfl
        have ih' := ih pre' (z :: post) hn' e'
        rcases List.mem_append.mp hp with hp | hp
        · exact ih' g hp
        · obtain rfl := List.mem_singleton.mp hp
          refine clos_closed gs src g (hg g (by rw [e']; simp)) fun p hpp => ?_
          rcases h pre' g post e' p hpp with q | q
          · exact clos_sub gs _ src p q
          · obtain ⟨x, hx, rfl⟩ := List.mem_map.mp q
            exact ih' x hx
  exact key fo.length fo [] rfl (by simp)
theorem find_head {α : Type} (p : α → Bool) (l : List α) : l.find? p = (l.filter p).head? := by
  induction l with
  | nil => rfl
  | cons a l ih =>
    rw [List.find?_cons, List.filter_cons]
    cases h : p a with
    | true => rfl
    | false => simpa using ih
theorem loop_due {src : List Str} {gs : List Gt} (hn : (src ++ gs.map Gt.l).Nodup) : (match order src gs with | .ok _ => (none : Option Str) | .error x => some x) = (gs.find? fun g => !decide (g.l ∈ clos gs gs.length src)).map Gt.l := by
  rcases ordN_end gs.length (src.foldl ins []) [] gs (Nat.le_refl _) (⟨by simp, fun x => by rw [mem_foldins]; simp, fun pre g post z => by simp at z⟩ : OI src gs (src.foldl ins []) [] gs) (List.Sublist.refl _) with ⟨k, fo, e, h⟩ | ⟨k, fo, g, ws, e, h, hs, hp⟩
  · have e' : order src gs = .ok (k, fo) := e
    rw [e']
    have hperm : fo.Perm gs := by simpa using h.perm
    rw [List.find?_eq_none.mpr fun g hg => ?_]
    · rfl
    · have := ordd_clos h.od (gs := gs) (fun g hg => hperm.mem_iff.mp hg) g (hperm.mem_iff.mpr hg)
      simp [this]
  · have e' : order src gs = .error g.l := e
    rw [e']
    have hfo : ∀ x ∈ fo, x ∈ gs := fun x hx => h.perm.mem_iff.mp (List.mem_append_left _ hx)
    have hck : ∀ x, x ∈ clos gs gs.length src ↔ x ∈ k := fun x => by
      constructor
      · refine clos_min gs (fun x => x ∈ k) (fun y hy hpy => ?_) gs.length src (fun y hy => (h.kn y).mpr (.inl hy)) x
        rcases List.mem_append.mp (h.perm.mem_iff.mpr hy) with z | z
        · exact (h.kn _).mpr (.inr (List.mem_map.mpr ⟨y, z, rfl⟩))
        · exact absurd hpy (hp y z)
      · intro hx
        rcases (h.kn x).mp hx with z | z
        · exact clos_sub gs _ src x z
        · obtain ⟨y, hy, rfl⟩ := List.mem_map.mp z
          exact ordd_clos h.od hfo y hy
    have hn2 : (src ++ (fo ++ g :: ws).map Gt.l).Nodup := (List.Perm.append_left src ((h.perm.symm).map Gt.l)).nodup_iff.mp hn
    have hws : ∀ x ∈ g :: ws, ¬ x.l ∈ k := fun x hx z => by
      obtain ⟨n1, n2, n3⟩ := List.nodup_append.mp hn2
      rcases (h.kn _).mp z with z | z
      · exact n3 _ z _ (List.mem_map.mpr ⟨x, List.mem_append_right _ hx, rfl⟩) rfl
      · rw [List.map_append] at n2
        exact (List.nodup_append.mp n2).2.2 _ z _ (List.mem_map.mpr ⟨x, hx, rfl⟩) rfl
    have hfl : (gs.filter fun g => !decide (g.l ∈ clos gs gs.length src)) = g :: ws := by
      have h1 : ((g :: ws).filter fun g => !decide (g.l ∈ clos gs gs.length src)) = g :: ws := List.filter_eq_self.mpr fun x hx => by
        have := hws x hx
        simp [hck, this]
      have h2 : (fo.filter fun g => !decide (g.l ∈ clos gs gs.length src)) = [] := List.filter_eq_nil_iff.mpr fun x hx => by
        have : x.l ∈ k := (h.kn _).mpr (.inr (List.mem_map.mpr ⟨x, hx, rfl⟩))
        simp [hck, this]
      have h3 := (h.perm.filter fun g => !decide (g.l ∈ clos gs gs.length src)).length_eq
      rw [List.filter_append, h1, h2] at h3
      have h4 := hs.filter fun g => !decide (g.l ∈ clos gs gs.length src)
      rw [h1] at h4
      exact (h4.eq_of_length (by simpa using h3)).symm
    rw [find_head, hfl]
    rfl
theorem told_due (K : PySem.W.Frag) (c : Cp) : toldD (initR K c) = dueC c := by
  have hd := dup_find (linesOf c.is c.rs c.gs)
  unfold initR dueC
  cases hfd : (List.range (linesOf c.is c.rs c.gs).length).find? fun k => decide ((linesOf c.is c.rs c.gs).getD k "" ∈ (linesOf c.is c.rs c.gs).take k) with
  | some k =>
    rw [hfd] at hd
    rw [← hd]
    rfl
  | none =>
    rw [hfd] at hd
    have hd : dupOf [] (linesOf c.is c.rs c.gs) = none := hd.symm
    have hnd := nodup_of_dup hd
    rw [hd]
    cases hu : (usesOf c).find? fun y => !decide (y ∈ linesOf c.is c.rs c.gs) with
    | some y => rfl
    | none =>
      have hs1 : (srcOf c.is c.rs).length = c.is.length + c.rs.length := by unfold srcOf; simp
      show toldD (sizeI K c) = if _ then _ else _
      unfold sizeI
      by_cases hz : (linesOf c.is c.rs c.gs).length ≤ 400 ∧ (srcOf c.is c.rs).length ≤ 40
      · rw [if_pos hz, if_neg (by omega)]
        have hl := loop_due (src := srcOf c.is c.rs) (gs := c.gs) hnd
        cases ho : order (srcOf c.is c.rs) c.gs with
        | ok l =>
          rw [ho] at hl
          cases hf : c.gs.find? fun g => !decide (g.l ∈ clos c.gs c.gs.length (srcOf c.is c.rs)) with
          | none => rfl
          | some g => rw [hf] at hl; cases hl
        | error x =>
          rw [ho] at hl
          cases hf : c.gs.find? fun g => !decide (g.l ∈ clos c.gs c.gs.length (srcOf c.is c.rs)) with
          | none => rw [hf] at hl; cases hl
          | some g =>
            rw [hf] at hl
            cases hl
            rfl
      · rw [if_neg hz, if_pos (by omega)]
        rfl
end
end CC

set_option maxHeartbeats 400000
namespace CC
open PySem PySem.Spec PyProof.Rows L2 Qw
open Evl hiding ea_cons
open Pw (Dt Rp RpL Wk R2d R1d RLd RLn Kq KqL truD flatD fl py pyL rangeD charsD spX2 Xm Xm0 tyD isI isB isS isTp isL rl_isInt rl_isBool rl_isStr rl_isTup rl_isList rl_int rl_max2 rl_min2 rl_len rl_lenT rl_tup rl_tupT rl_lenS rl_all rl_any rn_list rn_listT r2_I0 r2_B0 r2_eqI r2_neI r2_eqS r2_neS r2_eq r2_ne r2_I r2_inS r2_niS r2_in r2_inT r2_ixL r2_ixT r2_ixS r2_addS r2_eqD r2_neD r2_ixM r1_U ixN_at itemD cr_int cr_min2 cr_max2 cr_list cr_tuple cr_len pe_globI pe_globS pe_globR pe_tyname rTupS rInt1 rMin2)
local macro_rules | `(tactic| walk_at "side") => `(tactic| first
  | decide | omega | assumption | (show (0 : Int) < _; omega) | exact (show CDiv _ _ from ⟨by omega, by omega⟩) | exact (show CMul _ _ from Or.inr ⟨by omega, by omega⟩) | exact (show CMul _ _ from Or.inl ⟨by omega, by omega⟩) | exact (show CPow _ _ from ⟨by decide, by decide, by decide⟩))
local macro_rules | `(tactic| walk_at "op") => `(tactic| first
  | exact r2_I0 | exact r2_B0 | exact r2_eqI | exact r2_neI | exact r2_eqS | exact r2_neS
  | exact r2_eq rfl rfl rfl | exact r2_ne rfl rfl rfl
  | (refine' r2_I ?_; walk_at "side") | exact r2_inS | exact r2_niS)
local macro_rules | `(tactic| walk_at "rl") => `(tactic| first
  | exact rl_int | exact rl_max2 | exact rl_min2 | exact rl_len | exact rl_lenT | exact rl_isInt (by first | rfl | assumption) | exact rl_isBool (by first | rfl | assumption) | exact rl_isStr (by first | rfl | assumption) | exact rl_isTup (by first | rfl | assumption) | exact rl_isList (by first | rfl | assumption) | exact rl_tup | exact rl_tupT | (refine' rl_lenS ?_; walk_at "side"))
local macro_rules | `(tactic| walk_at "ap") => `(tactic| first
  | exact ap_nil
  | (refine' ap_cons ?eah ?eat; (case eah => walk_at "ep"); (case eat => walk_at "ap")))
local macro_rules | `(tactic| walk_at "ep") => `(tactic| first
  | exact ep_int | exact ep_bl | exact ep_str | exact ep_non | exact ep_ty | exact ep_var
  | (refine' ep_op ?eva ?evb ?evc; (case eva => walk_at "ep"); (case evb => walk_at "ep"); (case evc => walk_at "op"))
  | (refine' ep_cb ?evd ?eve; (case evd => walk_at "ap"); (case eve => walk_at "rl"))
  | (refine' ep_un ?evf r1_U; (case evf => walk_at "ep"))
  | (refine' ep_tup ?evg ?evi; (case evg => walk_at "ap"); (case evi => exact Nat.le_of_ble_eq_true rfl))
  | (refine' ep_lst ?evh ?evj; (case evh => walk_at "ap"); (case evj => exact Nat.le_of_ble_eq_true rfl))
  | assumption)
local macro_rules | `(tactic| walk_at "ee") => `(tactic| (refine' ee_p ?eep; (case eep => walk_at "ep")))
local macro_rules | `(tactic| walk_at "te") => `(tactic| (refine' te_p ?tep; (case tep => walk_at "tp")))
local macro_rules | `(tactic| walk_at "tp") => `(tactic| first
  | (refine' tp_test ?tea; (case tea => walk_at "ep"))
  | (refine' tp_B ?teb; (case teb => walk_at "ep"))
  | (refine' tp_not ?tec; (case tec => walk_at "tp"))
  | (refine' tp_or ?ted ?tee; (case ted => walk_at "tp"); (case tee => intro _; walk_at "tp"))
  | (refine' tp_and ?tef ?teg; (case tef => walk_at "tp"); (case teg => intro _; walk_at "tp"))
  | assumption)
section
variable {P : Program} {w : World} {K : PySem.W.Frag} {mg : Str → Option Value} {base : Heap}

/-! ### the changed parts may be asked about -/
structure Gd (n : Nat) (c : Cp) : Prop where
  f : formOk c.ch.IS c.ch.RS c.ch.GS c.ch.OS = true
  g : c.gs ≠ []
  z : c.is.length ≤ n ∧ c.rs.length ≤ n ∧ c.gs.length ≤ n ∧ c.os.length ≤ n
  p : ∀ g ∈ c.gs, g.ps.length ≤ 4
theorem name_ok {x : Str} (h : nameB x = true) : okS (.str x) = true := by
  unfold nameB at h
  split at h
  · cases h
  · simp only [Bool.and_eq_true, decide_eq_true_eq] at h
    exact decide_eq_true (by omega)
theorem isn_ok {d : Dt} (h : isName d = true) : okS d = true := by
  cases d <;> first | exact name_ok h | cases h
theorem all_ok {l : List Dt} (h : l.all isName = true) : l.all okS = true := List.all_eq_true.mpr fun d hd => isn_ok (List.all_eq_true.mp h d hd)
theorem reg_ok {d : Dt} (h : isReg d = true) : okR d = true := by
  cases d <;> first | cases h | skip
  rename_i xs
  obtain ⟨h1, h2⟩ := Bool.and_eq_true_iff.mp h
  have h1 : xs.length = 2 := of_decide_eq_true h1
  show (decide (xs.length ≤ 40000) && xs.all okS) = true
  rw [all_ok h2, decide_eq_true (show xs.length ≤ 40000 by omega)]
  rfl
theorem gate_okL {g : Gt} (h : isGate g.d = true) (h4 : g.ps.length ≤ 4) : okL g.d = true ∧ okS (.str g.l) = true ∧ (g.ps.map Dt.str).all okS = true := by
  have h : (decide (g.k ∈ KIN) && (mayHave g.k ((g.ps.map Dt.str).length : Int) && (isName (.str g.l) && (g.ps.map Dt.str).all isName))) = true := h
  simp only [Bool.and_eq_true] at h
  obtain ⟨_, _, h1, h2⟩ := h
  refine ⟨?_, isn_ok h1, all_ok h2⟩
  show (okS (.str g.l) && (true && (decide ((g.ps.map Dt.str).length ≤ 30000) && (g.ps.map Dt.str).all okS))) = true
  rw [isn_ok h1, all_ok h2, List.length_map, decide_eq_true (show g.ps.length ≤ 30000 by omega)]
  rfl
theorem lit_mem (l : List Dt) (r : Int) : lit l r ∈ l ∨ lit l r = .non := by
  unfold lit
  rw [List.getD_eq_getElem?_getD]
  cases h : l[(r % (l.length : Int)).toNat]? with
  | none => exact .inr rfl
  | some d => exact .inl (List.mem_of_getElem? h)
theorem lit_all {p : Dt → Bool} {l : List Dt} (h : l.all p = true) (hn : p .non = true) (r : Int) : p (lit l r) = true := by
  rcases lit_mem l r with e | e
  · exact List.all_eq_true.mp h _ e
  · rw [e]
    exact hn
theorem gsub_ok {c : Cp} {r : Int} {X : Dt} (h : (c.gs.map Gt.d).all okL = true) (hX : okL X = true) : (gsub c r X).all okL = true := by
  unfold gsub
  rw [List.all_append, List.all_append, List.all_cons, List.all_nil, hX]
  have h1 : ((c.gs.map Gt.d).take (r / 11 % (c.gs.length : Int)).toNat).all okL = true := List.all_eq_true.mpr fun d hd => List.all_eq_true.mp h d (List.mem_of_mem_take hd)
  have h2 : ((c.gs.map Gt.d).drop ((r / 11 % (c.gs.length : Int)).toNat + 1)).all okL = true := List.all_eq_true.mpr fun d hd => List.all_eq_true.mp h d (List.mem_of_mem_drop hd)
  rw [h1, h2]
  rfl
theorem gsub_len {c : Cp} (hg : c.gs ≠ []) (r : Int) (X : Dt) : (gsub c r X).length = c.gs.length := by
  have := (gat_at hg r).1
  unfold gsub
  simp
  omega
theorem okL_x {l k : Str} {ps : List Dt} (h1 : okS (.str l) = true) (h2 : ps.all okS = true) (h3 : ps.length ≤ 1000) : okL (.tup [.str l, .str k, .tup ps]) = true := by
  show (okS (.str l) && (true && (decide (ps.length ≤ 30000) && ps.all okS))) = true
  rw [h1, h2, decide_eq_true (show ps.length ≤ 30000 by omega)]
  rfl
theorem okL_n {l : Str} {ps : List Dt} (h1 : okS (.str l) = true) (h2 : ps.all okS = true) (h3 : ps.length ≤ 1000) : okL (.tup [.str l, .non, .tup ps]) = true := by
  show (okS (.str l) && (true && (decide (ps.length ≤ 30000) && ps.all okS))) = true
  rw [h1, h2, decide_eq_true (show ps.length ≤ 30000 by omega)]
  rfl
theorem Gd.ok {n : Nat} {c : Cp} (h : Gd n c) (hn : n ≤ 1000) : c.ok := ⟨by have := h.z.1; omega, by have := h.z.2.1; omega, by have := h.z.2.2.1; omega, by have := h.z.2.2.2; omega, h.p⟩
theorem Gd.q {n : Nat} {c : Cp} (h : Gd n c) (hn : n ≤ 1000) : Q4 c.ch.IS c.ch.RS c.ch.GS c.ch.OS := by
  have hf := h.f
  unfold formOk at hf
  simp only [Bool.and_eq_true] at hf
  obtain ⟨f1, f2, f3, f4⟩ := hf
  obtain ⟨z1, z2, z3, z4⟩ := h.z
  refine ⟨⟨?_, ?_, ?_, ?_⟩, all_ok f1, List.all_eq_true.mpr fun d hd => reg_ok (List.all_eq_true.mp f3 d hd), List.all_eq_true.mpr fun d hd => ?_, all_ok f2⟩
  · show (c.is.map Dt.str).length ≤ 1000; simp; omega
  · show (c.rs.map regD).length ≤ 1000; simp; omega
  · show (c.gs.map Gt.d).length ≤ 1000; simp; omega
  · show (c.os.map Dt.str).length ≤ 1000; simp; omega
  · have hd2 := List.all_eq_true.mp f4 d hd
    obtain ⟨g, hg, rfl⟩ := List.mem_map.mp hd
    exact (gate_okL hd2 (h.p g hg)).1
theorem chg_q {n : Nat} {c : Cp} (h : Gd n c) (hn : n ≤ 900) (r : Int) : Q4 (chg c r).IS (chg c r).RS (chg c r).GS (chg c r).OS ∧ (chg c r).IS.length ≤ n + 1 ∧ (chg c r).RS.length ≤ n + 1 ∧ (chg c r).GS.length ≤ n + 1 ∧ (chg c r).OS.length ≤ n + 1 := by
  have q := h.q (by omega)
  obtain ⟨z1, z2, z3, z4⟩ := h.z
  have y1 : c.ch.IS.length ≤ n := by show (c.is.map Dt.str).length ≤ n; simpa using z1
  have y2 : c.ch.RS.length ≤ n := by show (c.rs.map regD).length ≤ n; simpa using z2
  have y3 : c.ch.GS.length ≤ n := by show (c.gs.map Gt.d).length ≤ n; simpa using z3
  have y4 : c.ch.OS.length ≤ n := by show (c.os.map Dt.str).length ≤ n; simpa using z4
  have ga := (gat_at h.g r).1
  have hgm : gAtC c r ∈ c.gs := List.mem_of_getElem? (itemD (l := c.gs) ⟨"", "", []⟩ ga)
  have hf := h.f
  unfold formOk at hf
  simp only [Bool.and_eq_true] at hf
  obtain ⟨f1, f2, f3, f4⟩ := hf
  have h4 := h.p _ hgm
  obtain ⟨gl, gn1, gp⟩ := gate_okL (List.all_eq_true.mp f4 _ (List.mem_map.mpr ⟨_, hgm, rfl⟩)) h4
  have ho : okS (.str (othC c r)) = true := by
    have hne : linesOf c.is c.rs c.gs ≠ [] := by
      intro z
      have := congrArg List.length z
      unfold linesOf srcOf at this
      simp at this
      exact h.g this.2.2
    have hm := pick_mem hne (r / 11 / 7)
    rcases List.mem_append.mp hm with hm | hm
    · rcases List.mem_append.mp hm with hm | hm
      · exact List.all_eq_true.mp q.i _ (List.mem_map.mpr ⟨_, hm, rfl⟩)
      · obtain ⟨x, hx, e⟩ := List.mem_map.mp hm
        have := List.all_eq_true.mp f3 _ (List.mem_map.mpr ⟨x, hx, rfl⟩)
        have : isReg (.tup [.str x.1, .str x.2]) = true := this
        rw [isReg_two] at this
        have := isn_ok (Bool.and_eq_true_iff.mp this).1
        rw [e] at this
        exact this
    · obtain ⟨x, hx, e⟩ := List.mem_map.mp hm
      have := (gate_okL (List.all_eq_true.mp f4 _ (List.mem_map.mpr ⟨_, hx, rfl⟩)) (h.p _ hx)).2.1
      rw [e] at this
      exact this
  have gs1 : ∀ X, okL X = true → Q4 c.ch.IS c.ch.RS (gsub c r X) c.ch.OS ∧ c.ch.IS.length ≤ n + 1 ∧ c.ch.RS.length ≤ n + 1 ∧ (gsub c r X).length ≤ n + 1 ∧ c.ch.OS.length ≤ n + 1 := fun X hX => by
    have := gsub_len h.g r X
    exact ⟨⟨⟨q.z.1, q.z.2.1, by omega, q.z.2.2.2⟩, q.i, q.r, gsub_ok q.g hX, q.o⟩, by omega, by omega, by omega, by omega⟩
  have s1 : ∀ x : Str, x.length ≤ 40000 → okS (.str x) = true := fun x hx => decide_eq_true hx
  unfold chg
  split
  · refine ⟨⟨⟨by simp; omega, by simpa using q.z.2.1, by simpa using q.z.2.2.1, by simpa using q.z.2.2.2⟩, ?_, q.r, q.g, q.o⟩, by simp; omega, by simp; omega, by simp; omega, by simp; omega⟩
    have hx : okS (lit [.str "A", .str "", .non, .str (Txt.mul "x" 13), .str (othC c r)] (r / 11 / 7)) = true := lit_all (p := okS) (by simp only [List.all_cons, List.all_nil, ho]; decide +kernel) rfl _
    rw [List.all_append, q.i, List.all_cons, hx]
    rfl
  split
  · refine ⟨⟨⟨by simpa using q.z.1, by simp; omega, by simpa using q.z.2.2.1, by simpa using q.z.2.2.2⟩, q.i, ?_, q.g, q.o⟩, by simp; omega, by simp; omega, by simp; omega, by simp; omega⟩
    have hr : okR (.tup [.str (othC c r), .str "a"]) = true := by
      show (true && (okS (.str (othC c r)) && (true && true))) = true
      rw [ho]
      rfl
    have hx : okR (lit [.tup [.str "q9"], .tup [.str "q9", .str "Z"], .lst [.str "q9", .str "a"], .tup [.str (othC c r), .str "a"], .tup [.str "q9", .str "zz"]] (r / 11 / 7)) = true := lit_all (p := okR) (by simp only [List.all_cons, List.all_nil, hr]; decide +kernel) rfl _
    rw [List.all_append, q.r, List.all_cons, hx]
    rfl
  split
  · refine ⟨⟨⟨by simpa using q.z.1, by simpa using q.z.2.1, by simpa using q.z.2.2.1, by simp; omega⟩, q.i, q.r, q.g, ?_⟩, by simp; omega, by simp; omega, by simp; omega, by simp; omega⟩
    have hx : okS (lit [.str "", .str "zz", .str "a b", .non, .str "a"] (r / 11 / 7)) = true := lit_all (p := okS) (by decide +kernel) rfl _
    rw [List.all_append, q.o, List.all_cons, hx]
    rfl
  split
  · exact gs1 _ (okL_x ho gp (by simp; omega))
  split
  · refine gs1 _ (okL_x gn1 ?_ (by simp; omega))
    rw [List.all_cons, ho]
    exact List.all_eq_true.mpr fun d hd => List.all_eq_true.mp gp d (List.mem_of_mem_drop hd)
  split
  · refine gs1 _ (okL_x gn1 ?_ (by simp; omega))
    rw [List.all_append, gp]
    decide +kernel
  split
  · refine gs1 _ (okL_x gn1 ?_ (by simp; omega))
    rw [List.all_append, gp]
    decide +kernel
  split
  · refine gs1 _ ?_
    have h5 : ((gAtC c r).ps.map Dt.str).length ≤ 1000 := by simp; omega
    refine lit_all (p := fun k => okL (.tup [.str (gAtC c r).l, k, .tup ((gAtC c r).ps.map .str)])) ?_ (okL_n gn1 gp h5) (r / 11 / 7)
    simp only [List.all_cons, List.all_nil, okL_x gn1 gp h5, okL_n gn1 gp h5, Bool.and_self]
  split
  · refine gs1 _ (lit_all ?_ rfl (r / 11 / 7))
    have h5 : okL (.tup [.str (gAtC c r).l, .str (gAtC c r).k, .lst [.str "a"]]) = true := by
      show (okS (.str (gAtC c r).l) && (true && true)) = true
      rw [gn1]
      rfl
    simp only [List.all_cons, List.all_nil, h5, Bool.and_true]
    rfl
  split
  · exact ⟨⟨⟨by simp; omega, q.z.2.1, q.z.2.2.1, q.z.2.2.2⟩, List.all_eq_true.mpr fun d hd => List.all_eq_true.mp q.i d (List.mem_of_mem_drop hd), q.r, q.g, q.o⟩, by simp; omega, by show c.ch.RS.length ≤ n + 1; omega, by show c.ch.GS.length ≤ n + 1; omega, by show c.ch.OS.length ≤ n + 1; omega⟩
  · exact ⟨q, by omega, by omega, by omega, by omega⟩
/-! typed again -/
theorem list_ex {α : Type} {f : α → Dt} : ∀ {l : List Dt}, (∀ d ∈ l, ∃ a, d = f a) → ∃ as : List α, l = as.map f
  | [], _ => ⟨[], rfl⟩
  | d :: l, h => by
    obtain ⟨a, rfl⟩ := h d (by simp)
    obtain ⟨as, rfl⟩ := list_ex (f := f) (l := l) fun x hx => h x (by simp [hx])
    exact ⟨a :: as, rfl⟩
theorem names_ex {l : List Dt} (h : l.all isName = true) : ∃ xs : List Str, l = xs.map .str := list_ex fun d hd => by
  have := List.all_eq_true.mp h d hd
  cases d <;> first | exact ⟨_, rfl⟩ | cases this
theorem may_le {k : Str} {n : Nat} (h : mayHave k n = true) : n ≤ 4 := by
  unfold mayHave at h
  split at h
  · have := of_decide_eq_true h
    omega
  · split at h
    · have := of_decide_eq_true h
      omega
    · simp only [Bool.and_eq_true, decide_eq_true_eq] at h
      omega
theorem typed {is rs gs os : List Dt} (h : formOk is rs gs os = true) : ∃ c : Cp, is = c.ch.IS ∧ rs = c.ch.RS ∧ gs = c.ch.GS ∧ os = c.ch.OS ∧ ∀ g ∈ c.gs, g.ps.length ≤ 4 := by
  unfold formOk at h
  simp only [Bool.and_eq_true] at h
  obtain ⟨f1, f2, f3, f4⟩ := h
  obtain ⟨a, rfl⟩ := names_ex f1
  obtain ⟨b, rfl⟩ := names_ex f2
  obtain ⟨c, rfl⟩ : ∃ c : List RegT, rs = c.map regD := list_ex fun d hd => by
    have h := List.all_eq_true.mp f3 d hd
    cases d <;> first | cases h | skip
    rename_i xs
    obtain ⟨h1, h2⟩ := Bool.and_eq_true_iff.mp h
    obtain ⟨ys, rfl⟩ := names_ex h2
    have h1 := of_decide_eq_true h1
    rw [List.length_map] at h1
    match ys, h1 with
    | [x, y], _ => exact ⟨(x, y), rfl⟩
  obtain ⟨e, rfl⟩ : ∃ c : List Gt, gs = c.map Gt.d := list_ex fun d hd => by
    have h := List.all_eq_true.mp f4 d hd
    unfold isGate at h
    split at h
    · rename_i l k ps
      simp only [Bool.and_eq_true] at h
      obtain ⟨_, _, h1, h2⟩ := h
      obtain ⟨ys, rfl⟩ := names_ex h2
      cases l <;> first | exact ⟨⟨_, k, ys⟩, rfl⟩ | cases h1
    · cases h
  refine ⟨⟨a, c, e, b⟩, rfl, rfl, rfl, rfl, fun g hg => ?_⟩
  have h : (decide (g.k ∈ KIN) && (mayHave g.k ((g.ps.map Dt.str).length : Int) && (isName (.str g.l) && (g.ps.map Dt.str).all isName))) = true := List.all_eq_true.mp f4 g.d (List.mem_map.mpr ⟨g, hg, rfl⟩)
  simp only [Bool.and_eq_true] at h
  have := may_le h.2.1
  rw [List.length_map] at this
  exact this
theorem name_str {x : Str} (h : nameB x = true) : PyData.strOk x = true := by
  have hc : ∀ n ∈ CHR.cps.toList, n < 0x110000 := by decide +kernel
  unfold nameB at h
  split at h
  · cases h
  · simp only [Bool.and_eq_true, List.all_eq_true, decide_eq_true_eq] at h
    unfold PyData.strOk
    rw [Array.all_eq_true_iff_forall_mem]
    intro n hn
    exact decide_eq_true (hc n (h.2.2 n (by simpa using hn)))
theorem names_of {l : List Str} (h : (l.map Dt.str).all isName = true) : ∀ x ∈ l, nameB x = true := fun x hx => List.all_eq_true.mp h _ (List.mem_map.mpr ⟨x, hx, rfl⟩)
theorem form_names {c : Cp} (h : formOk c.ch.IS c.ch.RS c.ch.GS c.ch.OS = true) : (∀ x ∈ linesOf c.is c.rs c.gs, nameB x = true) ∧ ∀ x ∈ usesOf c, nameB x = true := by
  unfold formOk at h
  simp only [Bool.and_eq_true] at h
  obtain ⟨f1, f2, f3, f4⟩ := h
  have hr : ∀ r ∈ c.rs, nameB r.1 = true ∧ nameB r.2 = true := fun r hr => by
    have : isReg (.tup [.str r.1, .str r.2]) = true := List.all_eq_true.mp f3 _ (List.mem_map.mpr ⟨r, hr, rfl⟩)
    rw [isReg_two] at this
    exact Bool.and_eq_true_iff.mp this
  have hg : ∀ g ∈ c.gs, nameB g.l = true ∧ ∀ p ∈ g.ps, nameB p = true := fun g hg => by
    have h : (decide (g.k ∈ KIN) && (mayHave g.k ((g.ps.map Dt.str).length : Int) && (isName (.str g.l) && (g.ps.map Dt.str).all isName))) = true := List.all_eq_true.mp f4 g.d (List.mem_map.mpr ⟨g, hg, rfl⟩)
    simp only [Bool.and_eq_true] at h
    exact ⟨h.2.2.1, names_of h.2.2.2⟩
  refine ⟨fun x hx => ?_, fun x hx => ?_⟩
  · rcases List.mem_append.mp hx with hx | hx
    · rcases List.mem_append.mp hx with hx | hx
      · exact names_of f1 x hx
      · obtain ⟨r, h1, rfl⟩ := List.mem_map.mp hx
        exact (hr r h1).1
    · obtain ⟨g, h1, rfl⟩ := List.mem_map.mp hx
      exact (hg g h1).1
  · rcases List.mem_append.mp hx with hx | hx
    · rcases List.mem_append.mp hx with hx | hx
      · obtain ⟨g, h1, h2⟩ := List.mem_flatMap.mp hx
        exact (hg g h1).2 x h2
      · obtain ⟨r, h1, rfl⟩ := List.mem_map.mp hx
        exact (hr r h1).2
    · exact names_of f2 x hx
/-- told and due at once -/
theorem both (K : PySem.W.Frag) {is rs gs os : List Dt} (q : Q4 is rs gs os) : ∃ X : Dt, R_law_told K [p4 is rs gs os] (.d X) ∧ R_law_due [p4 is rs gs os] (.d X) ∧ (X = .non ∨ ∃ a b : Str, X = two a b ∧ PyData.strOk a = true ∧ PyData.strOk b = true) := by
  cases hf : formOk is rs gs os with
  | false =>
    exact ⟨two "form" "", ⟨is, rs, gs, os, .x (badC K "form" ""), rfl, ⟨_, _, _, _, is, rs, gs, os, rfl, ⟨.inr rfl, .inr rfl, .inr rfl, .inr rfl⟩, q.z, ⟨q.i, q.r, all_G q.g, q.o⟩, .inl ⟨hf, rfl⟩⟩, rfl⟩, ⟨is, rs, gs, os, rfl, q, .inl ⟨hf, rfl⟩⟩, (.inr ⟨_, _, rfl, by decide +kernel, by decide +kernel⟩)⟩
  | true =>
    obtain ⟨c, rfl, rfl, rfl, rfl, hp⟩ := typed hf
    obtain ⟨z1, z2, z3, z4⟩ := q.z
    have ok : c.ok := ⟨by simpa [Cp.ch] using z1, by simpa [Cp.ch] using z2, by simpa [Cp.ch] using z3, by simpa [Cp.ch] using z4, hp⟩
    refine ⟨dueC c, ⟨_, _, _, _, initR K c, rfl, ⟨_, _, _, _, _, _, _, _, rfl, ⟨.inr rfl, .inr rfl, .inr rfl, .inr rfl⟩, q.z, ⟨q.i, q.r, all_G q.g, q.o⟩, .inr ⟨hf, c, rfl, rfl, rfl, rfl, ok, rfl⟩⟩, by rw [told_due]⟩, ⟨_, _, _, _, rfl, q, .inr ⟨hf, c, rfl, rfl, rfl, rfl, ok, rfl⟩⟩, ?_⟩
    obtain ⟨n1, n2⟩ := form_names hf
    unfold dueC
    split
    · rename_i k hk
      have hk := List.mem_range.mp (List.mem_of_find?_eq_some hk)
      exact .inr ⟨_, _, rfl, by decide +kernel, name_str (n1 _ (List.mem_of_getElem? (itemD (l := linesOf c.is c.rs c.gs) "" hk)))⟩
    · split
      · rename_i y hy
        exact .inr ⟨_, _, rfl, by decide +kernel, name_str (n2 _ (List.mem_of_find?_eq_some hy))⟩
      · split
        · exact .inr ⟨_, _, rfl, by decide +kernel, by decide +kernel⟩
        · split
          · rename_i g hg
            exact .inr ⟨_, _, rfl, by decide +kernel, name_str (n1 _ (List.mem_append_right _ (List.mem_map.mpr ⟨g, List.mem_of_find?_eq_some hg, rfl⟩)))⟩
          · exact .inl rfl
end
end CC

set_option maxHeartbeats 400000
namespace CC
open PySem PySem.Spec PyProof.Rows L2 Qw
open Evl hiding ea_cons
open Pw (Dt Rp RpL Wk R2d R1d RLd RLn Kq KqL truD flatD fl py pyL rangeD charsD spX2 Xm Xm0 tyD isI isB isS isTp isL rl_isInt rl_isBool rl_isStr rl_isTup rl_isList rl_int rl_max2 rl_min2 rl_len rl_lenT rl_tup rl_tupT rl_lenS rl_all rl_any rn_list rn_listT r2_I0 r2_B0 r2_eqI r2_neI r2_eqS r2_neS r2_eq r2_ne r2_I r2_inS r2_niS r2_in r2_inT r2_ixL r2_ixT r2_ixS r2_addS r2_eqD r2_neD r2_ixM r1_U ixN_at itemD cr_int cr_min2 cr_max2 cr_list cr_tuple cr_len pe_globI pe_globS pe_globR pe_tyname rTupS rInt1 rMin2)
local macro_rules | `(tactic| walk_at "side") => `(tactic| first
  | decide | omega | assumption | (show (0 : Int) < _; omega) | exact (show CDiv _ _ from ⟨by omega, by omega⟩) | exact (show CMul _ _ from Or.inr ⟨by omega, by omega⟩) | exact (show CMul _ _ from Or.inl ⟨by omega, by omega⟩) | exact (show CPow _ _ from ⟨by decide, by decide, by decide⟩))
local macro_rules | `(tactic| walk_at "op") => `(tactic| first
  | exact r2_I0 | exact r2_B0 | exact r2_eqI | exact r2_neI | exact r2_eqS | exact r2_neS
  | exact r2_eq rfl rfl rfl | exact r2_ne rfl rfl rfl
  | (refine' r2_I ?_; walk_at "side") | exact r2_inS | exact r2_niS)
local macro_rules | `(tactic| walk_at "rl") => `(tactic| first
  | exact rl_int | exact rl_max2 | exact rl_min2 | exact rl_len | exact rl_lenT | exact rl_isInt (by first | rfl | assumption) | exact rl_isBool (by first | rfl | assumption) | exact rl_isStr (by first | rfl | assumption) | exact rl_isTup (by first | rfl | assumption) | exact rl_isList (by first | rfl | assumption) | exact rl_tup | exact rl_tupT | (refine' rl_lenS ?_; walk_at "side"))
local macro_rules | `(tactic| walk_at "ap") => `(tactic| first
  | exact ap_nil
  | (refine' ap_cons ?eah ?eat; (case eah => walk_at "ep"); (case eat => walk_at "ap")))
local macro_rules | `(tactic| walk_at "ep") => `(tactic| first
  | exact ep_int | exact ep_bl | exact ep_str | exact ep_non | exact ep_ty | exact ep_var
  | (refine' ep_op ?eva ?evb ?evc; (case eva => walk_at "ep"); (case evb => walk_at "ep"); (case evc => walk_at "op"))
  | (refine' ep_cb ?evd ?eve; (case evd => walk_at "ap"); (case eve => walk_at "rl"))
  | (refine' ep_un ?evf r1_U; (case evf => walk_at "ep"))
  | (refine' ep_tup ?evg ?evi; (case evg => walk_at "ap"); (case evi => exact Nat.le_of_ble_eq_true rfl))
  | (refine' ep_lst ?evh ?evj; (case evh => walk_at "ap"); (case evj => exact Nat.le_of_ble_eq_true rfl))
  | assumption)
local macro_rules | `(tactic| walk_at "ee") => `(tactic| (refine' ee_p ?eep; (case eep => walk_at "ep")))
local macro_rules | `(tactic| walk_at "te") => `(tactic| (refine' te_p ?tep; (case tep => walk_at "tp")))
local macro_rules | `(tactic| walk_at "tp") => `(tactic| first
  | (refine' tp_test ?tea; (case tea => walk_at "ep"))
  | (refine' tp_B ?teb; (case teb => walk_at "ep"))
  | (refine' tp_not ?tec; (case tec => walk_at "tp"))
  | (refine' tp_or ?ted ?tee; (case ted => walk_at "tp"); (case tee => intro _; walk_at "tp"))
  | (refine' tp_and ?tef ?teg; (case tef => walk_at "tp"); (case teg => intro _; walk_at "tp"))
  | assumption)
section
variable {P : Program} {w : World} {K : PySem.W.Frag} {mg : Str → Option Value} {base : Heap}

/-! ### the great parts, the law -/
def nm (p : Str) (k : Nat) : Str := p ++ (toString (k : Int) : Str)
def greatC (n : Int) : Cp :=
  if n % 12 = 0 then ⟨["a"], [], (List.range (399 + n / 12 % 2).toNat).map fun k => ⟨nm "g" k, "low", []⟩, []⟩
  else if n % 12 = 1 then ⟨(List.range 38).map (nm "a"), (List.range (2 + n / 12 % 2).toNat).map fun k => (nm "q" k, "a1"), [], ["a0"]⟩
  else ⟨[], [], [], []⟩
def R_law_great (ds : List Dt) (r : Rs) : Prop := ∃ n : Int, ds = [.int n] ∧ r = .d (greatC n).ch.d
theorem l_law_great (ds : List Dt) (r : Rs) (h : R_law_great ds r) : ds.length = 1 := by
  obtain ⟨_, rfl, _⟩ := h
  rfl
theorem num_len : ∀ k : Nat, k < 401 → (toString (k : Int) : Str).length ≤ 100 := by
  have h : ((List.range 401).all fun k => decide ((toString ((k : Nat) : Int) : Str).length ≤ 100)) = true := by decide +kernel
  intro k hk
  exact of_decide_eq_true (List.all_eq_true.mp h k (List.mem_range.mpr hk))
theorem nm_len {p : Str} {k : Nat} (hp : p.length = 1) (hk : k < 401) : (nm p k).length ≤ 200 := by
  unfold nm
  rw [show (p ++ (toString (k : Int) : Str)).length = p.length + (toString (k : Int) : Str).length from PySem.Str.length_append _ _]
  have := num_len k hk
  omega
theorem ep_nm {env : En} {p : Str} {k : Nat} (hp : p.length = 1) (hk : k < 401) (h : env[2]? = some (.d (.int (k : Int)))) : Ep P w K (tOp (fun x y H Q => ∃ i j, x = V.str i ∧ y = V.str j ∧ i.length + j.length ≤ sizeLine ∧ Q (.str (i ++ j)) H) (tC (.str p)) (tCB (fun xs H Q => ∃ j, xs = [V.int j] ∧ j.natAbs.log2 < 1920 ∧ Q (.str (toString j)) H) (tCons (tVar 2) tNil))) env (.str (nm p k)) :=
  ep_op ep_str (ep_cb (ap_cons (ep_var h) ap_nil) (rl_strI (by omega))) (r2_addS (by have := num_len k hk; omega))
abbrev s_law_great : Stmt := top 36
abbrev N_law_great : List Str := ["cell", "gates", "k"]
theorem sc_law_great : FnScope N_law_great ["cell"] (defScope s_law_great) := ⟨rfl, rfl, rfl, by decide +kernel, rfl, by decide +kernel, by decide +kernel⟩
theorem k_law_great (T : Txt K mg) (D : Dx K mg "_law_great" ["cell"] s_law_great)  : Fx P w K mg base 1 "_law_great" ["cell"] (spR P w K R_law_great) := by
  refine Fx.of D sc_law_great (l_law_great) fun f cdv A outer s H E hr => ?_
  refine ⟨_, (pss_cons (ps_if (pt_cmpR op_eq (pe_op op_mod (pv 0) pe_int) pe_int (nomark _)) (pss_cons (ps_setLc (i := 1) (own := [("k", 2)]) (g := gName 2) (tt := tYes) rfl sc_law_great.nd rfl rfl (sw_true rfl rfl rfl (by decide +kernel)) (pi_range1 rfl T.f_range (pa_cons (pe_op op_add pe_int (pe_op op_mod (pe_op op_fdiv (pv 0) pe_int) pe_int)) pa_nil)) (blkOk_by (N := N_law_great) (sc := defScope s_law_great) (by decide +kernel)) (fun _ _ _ _ _ => (pgn (i := 2) sc_law_great.nd)) (fun _ _ _ _ _ => pts_nil) (fun _ _ _ _ _ => (pe_tup (pa_cons (pe_op op_add_str pe_str (pe_callTy call_str_int (by rfl) T.f_str (by decide +kernel) (pa_cons (pv 2) pa_nil))) (pa_cons pe_str (pa_cons (pe_tup pa_nil) pa_nil))))))
      (pss_one (ps_ret (pe_tup (pa_cons (pe_lst (pa_cons pe_str pa_nil)) (pa_cons (pe_lst pa_nil) (pa_cons (pv 1) (pa_cons (pe_lst pa_nil) pa_nil)))))))) pss_nil)
      (pss_cons (ps_if (pt_cmpR op_eq (pe_op op_mod (pv 0) pe_int) pe_int (nomark _)) (pss_one (ps_ret (pe_tup (pa_cons (pe_lc (own := [("k", 2)]) (g := gName 2) (tt := tYes) rfl sc_law_great.nd (pi_range1 rfl T.f_range (pa_cons pe_int pa_nil)) (blkOk_by (N := N_law_great) (sc := defScope s_law_great) (by decide +kernel)) (fun _ _ _ _ _ => (pgn (i := 2) sc_law_great.nd)) (fun _ _ _ _ _ => pts_nil) (fun _ _ _ _ _ => (pe_op op_add_str pe_str (pe_callTy call_str_int (by rfl) T.f_str (by decide +kernel) (pa_cons (pv 2) pa_nil))))) (pa_cons (pe_lc (own := [("k", 2)]) (g := gName 2) (tt := tYes) rfl sc_law_great.nd (pi_range1 rfl T.f_range (pa_cons (pe_op op_add pe_int (pe_op op_mod (pe_op op_fdiv (pv 0) pe_int) pe_int)) pa_nil)) (blkOk_by (N := N_law_great) (sc := defScope s_law_great) (by decide +kernel)) (fun _ _ _ _ _ => (pgn (i := 2) sc_law_great.nd)) (fun _ _ _ _ _ => pts_nil) (fun _ _ _ _ _ => (pe_tup (pa_cons (pe_op op_add_str pe_str (pe_callTy call_str_int (by rfl) T.f_str (by decide +kernel) (pa_cons (pv 2) pa_nil))) (pa_cons pe_str pa_nil))))) (pa_cons (pe_lst pa_nil) (pa_cons (pe_lst (pa_cons pe_str pa_nil)) pa_nil))))))) pss_nil)
      (pss_one (ps_ret (pe_tup (pa_cons (pe_lst pa_nil) (pa_cons (pe_lst pa_nil) (pa_cons (pe_lst pa_nil) (pa_cons (pe_lst pa_nil) pa_nil))))))))), ?_⟩
  rintro ds r ⟨n, rfl, rfl⟩
  left
  show Se P w K _ [.d (.int n), .u, .u] _
  have hg : ("g" : Str).length = 1 := by decide +kernel
  have hq : ("q" : Str).length = 1 := by decide +kernel
  have ha : ("a" : Str).length = 1 := by decide +kernel
  refine se_when (b := decide (n % 12 = 0)) (te_p (by walk_at "tp")) (fun hb => ?_) (fun hb => ?_)
  · have hb := of_decide_eq_true hb
    refine se_seqF (se_seq (se_asg (ee_p (ep_new (np_rng (n := (399 + n / 12 % 2).toNat) (ap_cons (ep_is (by walk_at "ep") (congrArg Dt.int (Int.toNat_of_nonneg (by omega)).symm)) ap_nil) (by omega) (fun k => (⟨nm "g" k, "low", []⟩ : Gt).d) fun k hk => ep_tup (ap_cons (ep_nm hg (by omega) rfl) (ap_cons ep_str (ap_cons (ep_tup ap_nil) ap_nil))))))) (se_is (se_ret (ee_p (by walk_at "ep"))) ?_))
    unfold greatC
    rw [if_pos hb]
    show _ = Out.rt (p4 [.str "a"] [] (((List.range (399 + n / 12 % 2).toNat).map fun k => (⟨nm "g" k, "low", []⟩ : Gt)).map Gt.d) [])
    rw [List.map_map]
    rfl
  have h0 := of_decide_eq_false hb
  refine se_when (b := decide (n % 12 = 1)) (te_p (by walk_at "tp")) (fun hb => ?_) (fun hb => ?_)
  · have hb := of_decide_eq_true hb
    refine se_seqF (se_is (se_ret (ee_p (ep_tup (ap_cons (ep_new (np_rng (n := 38) (ap_cons ep_int ap_nil) (by omega) (fun k => .str (nm "a" k)) fun k hk => ep_nm ha (by omega) rfl)) (ap_cons (ep_new (np_rng (n := (2 + n / 12 % 2).toNat) (ap_cons (ep_is (by walk_at "ep") (congrArg Dt.int (Int.toNat_of_nonneg (by omega)).symm)) ap_nil) (by omega) (fun k => regD (nm "q" k, "a1")) fun k hk => ep_tup (ap_cons (ep_nm hq (by omega) rfl) (ap_cons ep_str ap_nil)))) (ap_cons (ep_lst ap_nil) (ap_cons (ep_lst (ap_cons ep_str ap_nil)) ap_nil))))))) ?_)
    unfold greatC
    rw [if_neg h0, if_pos hb]
    show _ = Out.rt (p4 (((List.range 38).map (nm "a")).map .str) (((List.range (2 + n / 12 % 2).toNat).map fun k => ((nm "q" k, "a1") : RegT)).map regD) [] [.str "a0"])
    rw [List.map_map, List.map_map]
    rfl
  have h1 := of_decide_eq_false hb
  refine se_is (se_ret (ee_p (by walk_at "ep"))) ?_
  unfold greatC
  rw [if_neg h0, if_neg h1]
  rfl
theorem great_q (n : Int) : Q4 (greatC n).ch.IS (greatC n).ch.RS (greatC n).ch.GS (greatC n).ch.OS := by
  have hg : ("g" : Str).length = 1 := by decide +kernel
  have hq : ("q" : Str).length = 1 := by decide +kernel
  have ha : ("a" : Str).length = 1 := by decide +kernel
  unfold greatC
  split
  · refine ⟨⟨?_, ?_, ?_, ?_⟩, (show ([Dt.str "a"] : List Dt).all okS = true by decide +kernel), rfl, ?_, rfl⟩
    · show (1 : Nat) ≤ 1000; omega
    · show (0 : Nat) ≤ 1000; omega
    · show (((List.range (399 + n / 12 % 2).toNat).map fun k => (⟨nm "g" k, "low", []⟩ : Gt)).map Gt.d).length ≤ 1000
      simp
      omega
    · show (0 : Nat) ≤ 1000; omega
    · refine List.all_eq_true.mpr fun d hd => ?_
      obtain ⟨g, hg1, rfl⟩ := List.mem_map.mp hd
      obtain ⟨k, hk, rfl⟩ := List.mem_map.mp hg1
      have hk := List.mem_range.mp hk
      have := nm_len hg (k := k) (by omega)
      exact okL_x (decide_eq_true (show (nm "g" k).length ≤ 40000 by omega)) rfl (Nat.zero_le _)
  split
  · refine ⟨⟨?_, ?_, ?_, ?_⟩, ?_, ?_, rfl, (show ([Dt.str "a0"] : List Dt).all okS = true by decide +kernel)⟩
    · show (((List.range 38).map (nm "a")).map Dt.str).length ≤ 1000; simp
    · show (((List.range (2 + n / 12 % 2).toNat).map fun k => ((nm "q" k, "a1") : RegT)).map regD).length ≤ 1000
      simp
      omega
    · show (0 : Nat) ≤ 1000; omega
    · show (1 : Nat) ≤ 1000; omega
    · refine List.all_eq_true.mpr fun d hd => ?_
      obtain ⟨x, hx, rfl⟩ := List.mem_map.mp hd
      obtain ⟨k, hk, rfl⟩ := List.mem_map.mp hx
      have hk := List.mem_range.mp hk
      have := nm_len ha (k := k) (by omega)
      exact decide_eq_true (by omega)
    · refine List.all_eq_true.mpr fun d hd => ?_
      obtain ⟨x, hx, rfl⟩ := List.mem_map.mp hd
      obtain ⟨k, hk, rfl⟩ := List.mem_map.mp hx
      have hk := List.mem_range.mp hk
      have := nm_len hq (k := k) (by omega)
      show (true && (okS (.str (nm "q" k)) && (true && true))) = true
      rw [show okS (.str (nm "q" k)) = true from decide_eq_true (by omega)]
      rfl
  · exact ⟨⟨Nat.zero_le _, Nat.zero_le _, Nat.zero_le _, Nat.zero_le _⟩, rfl, rfl, rfl, rfl⟩
/-! the law -/
theorem py_ok {X : Dt} (h : X = .non ∨ ∃ a b : Str, X = two a b ∧ PyData.strOk a = true ∧ PyData.strOk b = true) : ∃ p : PyData, Pw.py X = some p ∧ SeqAt.shaped p = true ∧ PyData.eqv p p = true := by
  have key : ∀ p : PyData, SeqAt.shaped p = true → PyData.eqv p p = true := fun p h => SeqAt.eqv_refl p (SeqAt.canLay_of_shaped h)
  rcases h with rfl | ⟨a, b, rfl, ha, hb⟩
  · exact ⟨_, rfl, rfl, rfl⟩
  · have sh : SeqAt.shaped (.tuple [.str a, .str b]) = true := by
      unfold SeqAt.shaped
      simp [PyData.canLay0, PyData.canLayAll0, ha, hb, PyData.depth, PyData.depthAll]
    exact ⟨_, rfl, sh, key _ sh⟩
theorem seq_lst {X Y : List Dt} (h : seqOf (.lst X) Y) : Y = X := by
  rcases h with h | h
  · cases h
  · exact (Dt.lst.inj h).symm
theorem parts_gd (K : PySem.W.Frag) (xs : List Int) : Gd 20 (partsL xs 4) := by
  obtain ⟨ord, _, _, h⟩ := law_init (xs := xs) (most := 4) K (by omega) (by omega)
  have ok := parts_ok (xs := xs) (most := 4) (by omega) (by omega)
  have hn := nG_le xs
  obtain ⟨a1, a2, a3, a4, is, rs, gs, os, e, ⟨s1, s2, s3, s4⟩, _, _, h⟩ := h (.lst ((partsL xs 4).is.map .str)) (.lst ((partsL xs 4).rs.map regD)) (.lst ((partsL xs 4).gs.map Gt.d)) (.lst ((partsL xs 4).os.map .str)) (.inr rfl) (.inr rfl) (.inr rfl) (.inr rfl)
  cases e
  have e1 := seq_lst s1
  have e2 := seq_lst s2
  have e3 := seq_lst s3
  have e4 := seq_lst s4
  subst e1 e2 e3 e4
  rcases h with ⟨_, z⟩ | ⟨hf, _⟩
  · cases z
  · refine ⟨hf, fun z => ?_, ⟨?_, ?_, ?_, ?_⟩, ok.2.2.2.2⟩
    · have := gs_len (xs := xs) (most := 4)
      rw [z] at this
      simp at this
      omega
    · have := (in_pos xs 4 (by omega) (by omega)).2
      show (inL xs 4).length ≤ 20
      omega
    · have := q_le xs
      show ((List.range (qL xs).length).map (regL xs 4)).length ≤ 20
      simp
      omega
    · rw [gs_len]
      omega
    · show ((List.range (1 + r8 xs % 3).toNat).map (outL xs (gkL xs 4).2)).length ≤ 20
      simp
      omega
end
end CC

set_option maxHeartbeats 400000
namespace CC
open PySem PySem.Spec PyProof.Rows L2 Qw
open Evl hiding ea_cons
open Pw (Dt Rp RpL Wk R2d R1d RLd RLn Kq KqL truD flatD fl py pyL rangeD charsD spX2 Xm Xm0 tyD isI isB isS isTp isL rl_isInt rl_isBool rl_isStr rl_isTup rl_isList rl_int rl_max2 rl_min2 rl_len rl_lenT rl_tup rl_tupT rl_lenS rl_all rl_any rn_list rn_listT r2_I0 r2_B0 r2_eqI r2_neI r2_eqS r2_neS r2_eq r2_ne r2_I r2_inS r2_niS r2_in r2_inT r2_ixL r2_ixT r2_ixS r2_addS r2_eqD r2_neD r2_ixM r1_U ixN_at itemD cr_int cr_min2 cr_max2 cr_list cr_tuple cr_len pe_globI pe_globS pe_globR pe_tyname rTupS rInt1 rMin2)
local macro_rules | `(tactic| walk_at "side") => `(tactic| first
  | decide | omega | assumption | (show (0 : Int) < _; omega) | exact (show CDiv _ _ from ⟨by omega, by omega⟩) | exact (show CMul _ _ from Or.inr ⟨by omega, by omega⟩) | exact (show CMul _ _ from Or.inl ⟨by omega, by omega⟩) | exact (show CPow _ _ from ⟨by decide, by decide, by decide⟩))
local macro_rules | `(tactic| walk_at "op") => `(tactic| first
  | exact r2_I0 | exact r2_B0 | exact r2_eqI | exact r2_neI | exact r2_eqS | exact r2_neS
  | exact r2_eq rfl rfl rfl | exact r2_ne rfl rfl rfl
  | (refine' r2_I ?_; walk_at "side") | exact r2_inS | exact r2_niS)
local macro_rules | `(tactic| walk_at "rl") => `(tactic| first
  | exact rl_int | exact rl_max2 | exact rl_min2 | exact rl_len | exact rl_lenT | exact rl_isInt (by first | rfl | assumption) | exact rl_isBool (by first | rfl | assumption) | exact rl_isStr (by first | rfl | assumption) | exact rl_isTup (by first | rfl | assumption) | exact rl_isList (by first | rfl | assumption) | exact rl_tup | exact rl_tupT | (refine' rl_lenS ?_; walk_at "side"))
local macro_rules | `(tactic| walk_at "ap") => `(tactic| first
  | exact ap_nil
  | (refine' ap_cons ?eah ?eat; (case eah => walk_at "ep"); (case eat => walk_at "ap")))
local macro_rules | `(tactic| walk_at "ep") => `(tactic| first
  | exact ep_int | exact ep_bl | exact ep_str | exact ep_non | exact ep_ty | exact ep_var
  | (refine' ep_op ?eva ?evb ?evc; (case eva => walk_at "ep"); (case evb => walk_at "ep"); (case evc => walk_at "op"))
  | (refine' ep_cb ?evd ?eve; (case evd => walk_at "ap"); (case eve => walk_at "rl"))
  | (refine' ep_un ?evf r1_U; (case evf => walk_at "ep"))
  | (refine' ep_tup ?evg ?evi; (case evg => walk_at "ap"); (case evi => exact Nat.le_of_ble_eq_true rfl))
  | (refine' ep_lst ?evh ?evj; (case evh => walk_at "ap"); (case evj => exact Nat.le_of_ble_eq_true rfl))
  | assumption)
local macro_rules | `(tactic| walk_at "ee") => `(tactic| (refine' ee_p ?eep; (case eep => walk_at "ep")))
local macro_rules | `(tactic| walk_at "te") => `(tactic| (refine' te_p ?tep; (case tep => walk_at "tp")))
local macro_rules | `(tactic| walk_at "tp") => `(tactic| first
  | (refine' tp_test ?tea; (case tea => walk_at "ep"))
  | (refine' tp_B ?teb; (case teb => walk_at "ep"))
  | (refine' tp_not ?tec; (case tec => walk_at "tp"))
  | (refine' tp_or ?ted ?tee; (case ted => walk_at "tp"); (case tee => intro _; walk_at "tp"))
  | (refine' tp_and ?tef ?teg; (case tef => walk_at "tp"); (case teg => intro _; walk_at "tp"))
  | assumption)
section
variable {P : Program} {w : World} {K : PySem.W.Frag} {mg : Str → Option Value} {base : Heap}

def R_law (ds : List Dt) (r : Rs) : Prop := ∃ xs : List Int, ds = [.lst (xs.map .int)] ∧ r = .d (.bl true)
theorem l_law (ds : List Dt) (r : Rs) (h : R_law ds r) : ds.length = 1 := by
  obtain ⟨_, rfl, _⟩ := h
  rfl
def stopC (h : Ch) : Bool := !formOk h.IS h.RS h.GS h.OS || decide ((h.GS.length : Int) = 0)
theorem again {n : Nat} {h : Ch} (hs : stopC h = false) (z : h.IS.length ≤ n ∧ h.RS.length ≤ n ∧ h.GS.length ≤ n ∧ h.OS.length ≤ n) : ∃ c : Cp, h = c.ch ∧ Gd n c := by
  unfold stopC at hs
  simp only [Bool.or_eq_false_iff, Bool.not_eq_false', decide_eq_false_iff_not] at hs
  obtain ⟨c, e1, e2, e3, e4, hp⟩ := typed hs.1
  have e : h = c.ch := by
    cases h
    simp only at e1 e2 e3 e4
    rw [e1, e2, e3, e4]
  subst e
  obtain ⟨z1, z2, z3, z4⟩ := z
  refine ⟨c, rfl, ⟨hs.1, fun g0 => hs.2 ?_, ⟨by simpa [Cp.ch] using z1, by simpa [Cp.ch] using z2, by simpa [Cp.ch] using z3, by simpa [Cp.ch] using z4⟩, hp⟩⟩
  show (((c.gs.map Gt.d).length : Nat) : Int) = 0
  rw [g0]
  rfl
abbrev s_law : Stmt := top 37
abbrev N_law : List Str := ["script", "parts", "k", "great"]
theorem sc_law : FnScope N_law ["script"] (defScope s_law) := ⟨rfl, rfl, rfl, by decide +kernel, rfl, by decide +kernel, by decide +kernel⟩
theorem k_law (T : Txt K mg) (D : Dx K mg "law" ["script"] s_law)  (G__law_parts : Fx P w K mg base 2 "_law_parts" ["script", "most"] (spR P w K R_law_parts)) (G__law_cell : Fx P w K mg base 1 "_law_cell" ["script", "k"] (spR P w K R_law_cell)) (G__law_changed : Fx P w K mg base 1 "_law_changed" ["parts", "rich"] (spR P w K R_law_changed)) (G__law_rich : Fx P w K mg base 1 "_law_rich" ["cell", "k"] (spR P w K R_law_rich)) (G__law_forms : Fx P w K mg base 3 "_law_forms" ["parts"] (spR P w K R_law_forms)) (G__law_told : Fx P w K mg base 7 "_law_told" ["parts"] (spR P w K (R_law_told K))) (G__law_due : Fx P w K mg base 4 "_law_due" ["parts"] (spR P w K R_law_due)) (G__law_great : Fx P w K mg base 1 "_law_great" ["cell"] (spR P w K R_law_great)) : FxL P w K mg base 8 "law" ["script"] (spR P w K R_law) s_law := by
  refine FxL.of D sc_law (l_law) fun f cdv A outer s H E hr => ?_
  have hu : (A.deeper (envOfC "law" (defScope s_law) s.heap.objs.size f cdv)).units + 64 < cLine := hr.units
  refine ⟨_, (pss_cons (pset (i := 1) sc_law.nd (pe_fx G__law_parts (hr.mono (by decide)) (pa_cons (pv 0) (pa_cons pe_int pa_nil))))
      (pss_cons (ps_for PassesOwn.never rfl (pi_range1 rfl T.f_range (pa_cons (pe_op op_mod (pe_fx G__law_cell (hr.mono (by decide)) (pa_cons (pv 0) (pa_cons pe_int pa_nil))) pe_int) pa_nil)) (pgn (i := 2) sc_law.nd)
      (pss_cons (pset (i := 1) sc_law.nd (pe_fx G__law_changed (hr.mono (by decide)) (pa_cons (pv 1) (pa_cons (pe_fx G__law_rich (hr.mono (by decide)) (pa_cons (pe_fx G__law_cell (hr.mono (by decide)) (pa_cons (pv 0) (pa_cons (pe_op op_add pe_int (pv 2)) pa_nil))) (pa_cons (pe_op op_add pe_int (pv 2)) pa_nil))) pa_nil))))
      (pss_one (ps_if (PW.pt (pw_or (pt_not (pt_val (pe_fx G__law_forms (hr.mono (by decide)) (pa_cons (pv 1) pa_nil)))) (pw_or1 (pt_cmpR op_eq (pe_callB cr_len (by rfl) T.f_len PySem.boot_len (pa_cons (pe_ix ix_tup (pv 1) pe_int (fun _ _ => rfl)) pa_nil)) pe_int (nomark _))))) (pss_one ps_break) pss_nil))))
      (pss_cons (ps_if (pt_cmpR (op_neD hu) (pe_fx G__law_told (hr.mono (by decide)) (pa_cons (pv 1) pa_nil)) (pe_fx G__law_due (hr.mono (by decide)) (pa_cons (pv 1) pa_nil)) (nomark _)) (pss_one (ps_ret pe_bl)) pss_nil)
      (pss_cons (pset (i := 3) sc_law.nd (pe_fx G__law_great (hr.mono (by decide)) (pa_cons (pe_op op_fdiv (pe_fx G__law_cell (hr.mono (by decide)) (pa_cons (pv 0) (pa_cons pe_int pa_nil))) pe_int) pa_nil)))
      (pss_one (ps_ret (pe_cmpR (op_eqD hu) (pe_fx G__law_told (hr.mono (by decide)) (pa_cons (pv 3) pa_nil)) (pe_fx G__law_due (hr.mono (by decide)) (pa_cons (pv 3) pa_nil)) (nomark _)))))))), ?_⟩
  rintro ds r ⟨xs, rfl, rfl⟩
  left
  show Se P w K _ [.d (.lst (xs.map .int)), .u, .u, .u] _
  have g0 := parts_gd K xs
  refine se_seq (se_asg (d := (partsL xs 4).ch.d) (ee_p (ep_call (ap_cons ep_var (ap_cons ep_int ap_nil)) ⟨xs, 4, rfl, by omega, by omega, rfl⟩))) ?_
  let B : Ch → En := fun h => [.d (.lst (xs.map .int)), .d h.d, .x, .u]
  have hbody : ∀ (n : Nat) (c : Cp), Gd n c → n ≤ 900 → ∀ k : Nat, ∀ o : Out, ((stopC (chg c (rich (cellI xs (10 + k)) ((40 + k : Nat) : Int))) = true ∧ o = .bk (B (chg c (rich (cellI xs (10 + k)) ((40 + k : Nat) : Int))))) ∨ (stopC (chg c (rich (cellI xs (10 + k)) ((40 + k : Nat) : Int))) = false ∧ o = .nc (B (chg c (rich (cellI xs (10 + k)) ((40 + k : Nat) : Int)))))) →
      Se P w K (tSeq (tAsg (tCall (spR P w K R_law_changed) [] E0 (tCons (tVar 1) (tCons (tCall (spR P w K R_law_rich) [] E0 (tCons (tCall (spR P w K R_law_cell) [] E0 (tCons (tVar 0) (tCons (tOp (rI0 fun i j => .int (i + j)) (tC (.int 10)) (tVar 2)) tNil))) (tCons (tOp (rI0 fun i j => .int (i + j)) (tC (.int 40)) (tVar 2)) tNil))) tNil))) (gName 1)) (tIfS (tOr (tNot (tB (tCall (spR P w K R_law_forms) [] E0 (tCons (tVar 1) tNil)))) (tTest (tOp rEq (tCB (rLenS K) (tCons (tOp (rIxT K) (tVar 1) (tC (.int 2))) tNil)) (tC (.int 0))))) tBreak tNext)) ((B c.ch).set 2 (.d (.int (k : Int)))) o := by
    intro n c g hn k o ho
    have q := (chg_q g hn (rich (cellI xs (10 + k)) ((40 + k : Nat) : Int))).1
    generalize hh : chg c (rich (cellI xs (10 + k)) ((40 + k : Nat) : Int)) = h' at ho q
    refine se_seq (se_asg (d := h'.d) (ee_p (ep_call (ap_cons (ep_var rfl) (ap_cons (ep_call (ap_cons (ep_call (ap_cons (ep_var rfl) (ap_cons (ep_is (e := .int ((10 + k : Nat) : Int)) (ep_op ep_int (ep_var rfl) r2_I0) (by simp)) ap_nil)) ⟨xs, 10 + k, rfl, rfl⟩) (ap_cons (ep_is (e := .int ((40 + k : Nat) : Int)) (ep_op ep_int (ep_var rfl) r2_I0) (by simp)) ap_nil)) ⟨_, _, rfl, rfl⟩) ap_nil)) ⟨c, _, rfl, rich_nonneg _ _, g.g, g.ok (by omega), by rw [hh]⟩))) ?_
    have tst : ∀ {en : En}, en[1]? = some (.d h'.d) → Tp P w K (tOr (tNot (tB (tCall (spR P w K R_law_forms) [] E0 (tCons (tVar 1) tNil)))) (tTest (tOp rEq (tCB (rLenS K) (tCons (tOp (rIxT K) (tVar 1) (tC (.int 2))) tNil)) (tC (.int 0))))) en (stopC h') := fun h => tp_or (tp_not (tp_B (ep_call (ap_cons (ep_var h) ap_nil) ⟨_, _, _, _, rfl, q, rfl⟩))) fun _ => tp_test (ep_op (ep_cb (ap_cons (ep_op (d := h'.d) (e := .int 2) (z := .lst h'.GS) (ep_var h) ep_int (itm (i := 2) rfl)) ap_nil) rl_len) ep_int r2_eqI)
    rcases ho with ⟨hs, rfl⟩ | ⟨hs, rfl⟩
    · refine se_if (b := true) (te_p (tp_is (tst rfl) hs)) (fun _ => ?_) (fun z => nomatch z)
      exact fun F0 H0 F H σ D S p => p F H σ (Ex.refl F) (S.le (Le.s (Le.s (Le.x (Le.s Le.nil)))))
    · exact se_nc (se_le (se_if (b := false) (te_p (tp_is (tst rfl) hs)) (fun z => nomatch z) (fun _ => se_next)) (Le.s (Le.s (Le.x (Le.s Le.nil)))))
  have hloop : ∃ h : Ch, Q4 h.IS h.RS h.GS h.OS ∧ Se P w K (tFor (iRng1 (tCons (tOp (rI (fun _ j => 0 < j) fun i j => .int (i % j)) (tCall (spR P w K R_law_cell) [] E0 (tCons (tVar 0) (tCons (tC (.int 9)) tNil))) (tC (.int 3))) tNil)) (gName 2) (tSeq (tAsg (tCall (spR P w K R_law_changed) [] E0 (tCons (tVar 1) (tCons (tCall (spR P w K R_law_rich) [] E0 (tCons (tCall (spR P w K R_law_cell) [] E0 (tCons (tVar 0) (tCons (tOp (rI0 fun i j => .int (i + j)) (tC (.int 10)) (tVar 2)) tNil))) (tCons (tOp (rI0 fun i j => .int (i + j)) (tC (.int 40)) (tVar 2)) tNil))) tNil))) (gName 1)) (tIfS (tOr (tNot (tB (tCall (spR P w K R_law_forms) [] E0 (tCons (tVar 1) tNil)))) (tTest (tOp rEq (tCB (rLenS K) (tCons (tOp (rIxT K) (tVar 1) (tC (.int 2))) tNil)) (tC (.int 0))))) tBreak tNext))) [.d (.lst (xs.map .int)), .d (partsL xs 4).ch.d, .u, .u] (.nx (B h)) := by
    have hI : Ip P w K (iRng1 (tCons (tOp (rI (fun _ j => 0 < j) fun i j => .int (i % j)) (tCall (spR P w K R_law_cell) [] E0 (tCons (tVar 0) (tCons (tC (.int 9)) tNil))) (tC (.int 3))) tNil)) [.d (.lst (xs.map .int)), .d (partsL xs 4).ch.d, .u, .u] (rangeD 0 (cellI xs 9 % 3).toNat) := ip_rng1 (ap_cons (ep_op (ep_call (ap_cons (ep_var rfl) (ap_cons ep_int ap_nil)) ⟨xs, 9, rfl, rfl⟩) ep_int (r2_I (show (0 : Int) < 3 by omega))) ap_nil) (by omega)
    have h00 : Le [.d (.lst (xs.map .int)), .d (partsL xs 4).ch.d, .u, .u] (B (partsL xs 4).ch) := Le.s (Le.s (Le.x (Le.s Le.nil)))
    have hn3 : (cellI xs 9 % 3).toNat = 0 ∨ (cellI xs 9 % 3).toNat = 1 ∨ (cellI xs 9 % 3).toNat = 2 := by omega
    obtain ⟨q1, z1⟩ := chg_q g0 (by omega) (rich (cellI xs (10 + 0)) ((40 + 0 : Nat) : Int))
    have b0 := hbody 20 (partsL xs 4) g0 (by omega) 0
    generalize hh1 : chg (partsL xs 4) (rich (cellI xs (10 + 0)) ((40 + 0 : Nat) : Int)) = h1 at q1 z1 b0
    rcases hn3 with hn | hn | hn
    · rw [hn] at hI
      exact ⟨_, g0.q (by omega), se_for (ie_p hI) (fun _ => B (partsL xs 4).ch) 0 (by omega) h00 (fun i d hi => absurd hi (Nat.not_lt_zero i)) (.inl ⟨rfl, rfl⟩)⟩
    · rw [hn] at hI
      cases hs : stopC h1 with
      | true => exact ⟨_, q1, se_for (ie_p hI) (fun _ => B (partsL xs 4).ch) 0 (Nat.zero_le _) h00 (fun i d hi => absurd hi (Nat.not_lt_zero i)) (.inr ⟨.int ((0 : Nat) : Int), _, rfl, ge_name, .inr ⟨_, rfl, b0 _ (.inl ⟨hs, rfl⟩)⟩⟩)⟩
      | false =>
        refine ⟨_, q1, se_for (ie_p hI) (fun i => match i with | 0 => B (partsL xs 4).ch | _ => B h1) 1 (Nat.le_refl _) h00 (fun i d hi hd => ?_) (.inl ⟨rfl, rfl⟩)⟩
        obtain rfl : i = 0 := by omega
        cases hd
        exact ⟨_, ge_name, b0 _ (.inr ⟨hs, rfl⟩)⟩
    · rw [hn] at hI
      cases hs : stopC h1 with
      | true => exact ⟨_, q1, se_for (ie_p hI) (fun _ => B (partsL xs 4).ch) 0 (Nat.zero_le _) h00 (fun i d hi => absurd hi (Nat.not_lt_zero i)) (.inr ⟨.int ((0 : Nat) : Int), _, rfl, ge_name, .inr ⟨_, rfl, b0 _ (.inl ⟨hs, rfl⟩)⟩⟩)⟩
      | false =>
        obtain ⟨c1, rfl, g1⟩ := again hs z1
        obtain ⟨q2, z2⟩ := chg_q g1 (by omega) (rich (cellI xs (10 + 1)) ((40 + 1 : Nat) : Int))
        have b1 := hbody 21 c1 g1 (by omega) 1
        generalize hh2 : chg c1 (rich (cellI xs (10 + 1)) ((40 + 1 : Nat) : Int)) = h2 at q2 z2 b1
        cases hs2 : stopC h2 with
        | true =>
          refine ⟨_, q2, se_for (ie_p hI) (fun i => match i with | 0 => B (partsL xs 4).ch | _ => B c1.ch) 1 (by decide) h00 (fun i d hi hd => ?_) (.inr ⟨.int ((1 : Nat) : Int), _, rfl, ge_name, .inr ⟨_, rfl, b1 _ (.inl ⟨hs2, rfl⟩)⟩⟩)⟩
          obtain rfl : i = 0 := by omega
          cases hd
          exact ⟨_, ge_name, b0 _ (.inr ⟨hs, rfl⟩)⟩
        | false =>
          refine ⟨_, q2, se_for (ie_p hI) (fun i => match i with | 0 => B (partsL xs 4).ch | 1 => B c1.ch | _ => B h2) 2 (Nat.le_refl _) h00 (fun i d hi hd => ?_) (.inl ⟨rfl, rfl⟩)⟩
          have : i = 0 ∨ i = 1 := by omega
          rcases this with rfl | rfl
          · cases hd
            exact ⟨_, ge_name, b0 _ (.inr ⟨hs, rfl⟩)⟩
          · cases hd
            exact ⟨_, ge_name, b1 _ (.inr ⟨hs2, rfl⟩)⟩
  obtain ⟨h, q, hl⟩ := hloop
  refine se_seq (env1 := B h) hl ?_
  obtain ⟨X, t1, t2, t3⟩ := both K q
  obtain ⟨p, p1, p2, p3⟩ := py_ok t3
  refine se_when (b := false) (te_p (tp_is (tp_test (ep_op (ep_call (ap_cons (ep_var rfl) ap_nil) t1) (ep_call (ap_cons (ep_var rfl) ap_nil) t2) (r2_neD p1 p1 p2 p2))) (by rw [p3]; rfl))) (fun z => nomatch z) (fun _ => ?_)
  refine se_seq (se_asg (d := (greatC (cellI xs 9 / 3)).ch.d) (ee_p (ep_call (ap_cons (ep_op (ep_call (ap_cons (ep_var rfl) (ap_cons ep_int ap_nil)) ⟨xs, 9, rfl, rfl⟩) ep_int (r2_I (show CDiv _ _ from ⟨by omega, by omega⟩))) ap_nil) ⟨_, rfl, rfl⟩))) ?_
  obtain ⟨X, t1, t2, t3⟩ := both K (great_q (cellI xs 9 / 3))
  obtain ⟨p, p1, p2, p3⟩ := py_ok t3
  exact se_ret (ee_p (ep_is (ep_op (ep_call (ap_cons (ep_var rfl) ap_nil) t1) (ep_call (ap_cons (ep_var rfl) ap_nil) t2) (r2_eqD p1 p1 p2 p2)) (by rw [p3])))
end
end CC

set_option maxHeartbeats 400000
namespace CC
open PySem PySem.Spec PyProof.Rows L2 Qw
open Evl hiding ea_cons
open Pw (Dt Rp RpL Wk spX2 Xm Xm0)
section
variable {P : Program} {w : World} {K : PySem.W.Frag} {mg : Str → Option Value} {base : Heap}
abbrev s_iBadCircuit : Stmt := meth 3 0
def dd_is_name : He.DefD := ⟨("is_name", none), "is_name", "is_name", defArgs s_is_name, defBody s_is_name, defScope s_is_name, [], []⟩
def dd_may_have : He.DefD := ⟨("_may_have", none), "_may_have", "_may_have", defArgs s_may_have, defBody s_may_have, defScope s_may_have, [], []⟩
def dd_are_names : He.DefD := ⟨("_are_names", none), "_are_names", "_are_names", defArgs s_are_names, defBody s_are_names, defScope s_are_names, [], []⟩
def dd_is_register : He.DefD := ⟨("_is_register", none), "_is_register", "_is_register", defArgs s_is_register, defBody s_is_register, defScope s_is_register, [], []⟩
def dd_is_gate : He.DefD := ⟨("is_gate", none), "is_gate", "is_gate", defArgs s_is_gate, defBody s_is_gate, defScope s_is_gate, [], []⟩
def dd_check_form : He.DefD := ⟨("_check_form", none), "_check_form", "_check_form", defArgs s_check_form, defBody s_check_form, defScope s_check_form, [], []⟩
def dd_check_driven_once : He.DefD := ⟨("_check_driven_once", none), "_check_driven_once", "_check_driven_once", defArgs s_check_driven_once, defBody s_check_driven_once, defScope s_check_driven_once, [], []⟩
def dd_check_known : He.DefD := ⟨("_check_known", none), "_check_known", "_check_known", defArgs s_check_known, defBody s_check_known, defScope s_check_known, [], []⟩
def dd_check_size : He.DefD := ⟨("_check_size", none), "_check_size", "_check_size", defArgs s_check_size, defBody s_check_size, defScope s_check_size, [], []⟩
def dd_in_order : He.DefD := ⟨("_in_order", none), "_in_order", "_in_order", defArgs s_in_order, defBody s_in_order, defScope s_in_order, [], []⟩
def dd_Circuit_lines : He.DefD := ⟨("Circuit", some "lines"), "lines", "Circuit.lines", defArgs s_Circuit_lines, defBody s_Circuit_lines, defScope s_Circuit_lines, [], []⟩
def dd_Circuit_sources : He.DefD := ⟨("Circuit", some "sources"), "sources", "Circuit.sources", defArgs s_Circuit_sources, defBody s_Circuit_sources, defScope s_Circuit_sources, [], []⟩
def dd_Circuit_init : He.DefD := ⟨("Circuit", some "__init__"), "__init__", "Circuit.__init__", defArgs s_Circuit_init, defBody s_Circuit_init, defScope s_Circuit_init, [], []⟩
def dd_Circuit_parts : He.DefD := ⟨("Circuit", some "parts"), "parts", "Circuit.parts", defArgs s_Circuit_parts, defBody s_Circuit_parts, defScope s_Circuit_parts, [], []⟩
def dd_law_cell : He.DefD := ⟨("_law_cell", none), "_law_cell", "_law_cell", defArgs s_law_cell, defBody s_law_cell, defScope s_law_cell, [], []⟩
def dd_law_rich : He.DefD := ⟨("_law_rich", none), "_law_rich", "_law_rich", defArgs s_law_rich, defBody s_law_rich, defScope s_law_rich, [], []⟩
def dd_law_gate : He.DefD := ⟨("_law_gate", none), "_law_gate", "_law_gate", defArgs s_law_gate, defBody s_law_gate, defScope s_law_gate, [], []⟩
def dd_law_parts : He.DefD := ⟨("_law_parts", none), "_law_parts", "_law_parts", defArgs s_law_parts, defBody s_law_parts, defScope s_law_parts, [], []⟩
def dd_law_changed : He.DefD := ⟨("_law_changed", none), "_law_changed", "_law_changed", defArgs s_law_changed, defBody s_law_changed, defScope s_law_changed, [], []⟩
def dd_law_is_name : He.DefD := ⟨("_law_is_name", none), "_law_is_name", "_law_is_name", defArgs s_law_is_name, defBody s_law_is_name, defScope s_law_is_name, [], []⟩
def dd_law_is_gate : He.DefD := ⟨("_law_is_gate", none), "_law_is_gate", "_law_is_gate", defArgs s_law_is_gate, defBody s_law_is_gate, defScope s_law_is_gate, [], []⟩
def dd_law_forms : He.DefD := ⟨("_law_forms", none), "_law_forms", "_law_forms", defArgs s_law_forms, defBody s_law_forms, defScope s_law_forms, [], []⟩
def dd_law_due : He.DefD := ⟨("_law_due", none), "_law_due", "_law_due", defArgs s_law_due, defBody s_law_due, defScope s_law_due, [], []⟩
def dd_law_told : He.DefD := ⟨("_law_told", none), "_law_told", "_law_told", defArgs s_law_told, defBody s_law_told, defScope s_law_told, [], []⟩
def dd_law_great : He.DefD := ⟨("_law_great", none), "_law_great", "_law_great", defArgs s_law_great, defBody s_law_great, defScope s_law_great, [], []⟩
def dd_law : He.DefD := ⟨("law", none), "law", "law", defArgs s_law, defBody s_law, defScope s_law, [], []⟩
def dd_iBadCircuit : He.DefD := ⟨("BadCircuit", some "__init__"), "__init__", "BadCircuit.__init__", defArgs s_iBadCircuit, defBody s_iBadCircuit, defScope s_iBadCircuit, [], []⟩
def fnL : List He.DefD := [dd_is_name, dd_may_have, dd_are_names, dd_is_register, dd_is_gate, dd_check_form, dd_check_driven_once, dd_check_known, dd_check_size, dd_in_order, dd_Circuit_lines, dd_Circuit_sources, dd_Circuit_init, dd_Circuit_parts, dd_law_cell, dd_law_rich, dd_law_gate, dd_law_parts, dd_law_changed, dd_law_is_name, dd_law_is_gate, dd_law_forms, dd_law_due, dd_law_told, dd_law_great, dd_law, dd_iBadCircuit]
def faL : List He.Fa := [.glo "is_name", .glo "_may_have", .glo "_are_names", .glo "_is_register", .glo "is_gate", .glo "_check_form", .glo "_check_driven_once", .glo "_check_known", .glo "_check_size", .glo "_in_order", .glo "Circuit", .meth "Circuit" "lines", .meth "Circuit" "sources", .mkr "Circuit", .meth "Circuit" "parts", .glo "_law_cell", .glo "_law_rich", .glo "_law_gate", .glo "_law_parts", .glo "_law_changed", .glo "_law_is_name", .glo "_law_is_gate", .glo "_law_forms", .glo "_law_due", .glo "_law_told", .glo "_law_great", .glo "law", .glo "BadCircuit", .glo "KINDS", .cls "Circuit", .exm "BadCircuit" "BadCircuit" true, .free "all", .free "bool", .free "int", .free "isinstance", .free "len", .free "list", .free "max", .free "min", .free "range", .free "set", .free "sorted", .free "str", .free "tuple", .int "MOST_NAME" 12, .int "MOST_PINS" 4, .int "MOST_LINES" 400, .int "MOST_SOURCES" 40, .str "_LETTERS" "abcdefghijklmnopqrstuvwxyz", .str "_CHARACTERS" "abcdefghijklmnopqrstuvwxyz0123456789_", .noat "Circuit" "inputs", .noat "Circuit" "registers", .noat "Circuit" "gates", .noat "Circuit" "outputs", .noat "Circuit" "gate_of", .noat "Circuit" "order", .noat "BadCircuit" "reason", .noat "BadCircuit" "name"]
def kinD : List He.Dv := KIN.map He.Dv.str
def exB (K : PySem.W.Frag) : Bool := oexB K (He.ga K "BadCircuit") && (decide (PySem.W.findIn K (.ref (He.ga K "BadCircuit")) "__init__" = some (some (.ref (He.ma K (He.ga K "BadCircuit") "__init__")))) && (decide (PySem.W.typeIn K (.ref (He.ma K (He.ga K "BadCircuit") "__init__")) = some (.type "function")) && (xfB K (He.ga K "BadCircuit") && He.tupB K "KINDS" kinD)))
abbrev RR : PySem.W.OpenRow := PySem.W.OpenLaw.row PySem.Challenge.rw_probewright_k02_parts_that_make_no_circu
abbrev hk : PySem.W.Hook := He.hookX 6 faL fnL [] [] exB
def ob (s : PySem.W.SharedT) : He.AlX := He.obsX 6 faL fnL [] [] exB (HandSHeadRun.getT s)
theorem ob_eq (s : PySem.W.SharedT) : ob s = hk.obs s.abs := He.obsX_eq (HandSHeadRun.getT_eq s)
theorem sc_iBadCircuit : FnScope [("self" : Str), "reason", "name"] [("self" : Str), "reason", "name"] (defScope s_iBadCircuit) := ⟨rfl, rfl, rfl, by decide +kernel, rfl, by decide +kernel, by decide +kernel⟩
theorem xm_BadCircuit {C fI : Addr} {fd : FuncData} (F : FunD K "__init__" "BadCircuit.__init__" (defArgs s_iBadCircuit) (defBody s_iBadCircuit) (defScope s_iBadCircuit) [] [] fI fd) (hm : mg "BadCircuit" = some (.ref C)) (T : OexC K C) (iC : PySem.W.findIn K (.ref C) "__init__" = some (some (.ref fI))) (tI : PySem.W.typeIn K (.ref fI) = some (.type "function"))
    (n1 : PySem.W.findIn K (.ref C) "reason" = some none) (n2 : PySem.W.findIn K (.ref C) "name" = some none) : Xm P w K mg base "BadCircuit" C (spX2 C "reason" "name") :=
  ⟨fI, fd, [("self" : Str), "reason", "name"], hm, T, iC, tI, F.bindsN fun _ _ _ _ _ _ us hl => match us, hl with | [_, _, _], _ => rfl,
    init2c F sc_iBadCircuit T n1 n2 fun cdv A outer s H E => pss_cons (ps_ost (pv 0) (pv 1)) (pss_one (ps_ost (pv 0) (pv 2)))⟩
theorem lawOk {h : Heap} (X : K.In h) (G : h.Ns mainGlobals mg) (c : He.SaysD faL fnL K) (m : exB K = true) : ∀ base : Heap, FxL P w K mg base 8 "law" ["script"] (spR P w K R_law) s_law := by
  intro base
  unfold exB at m
  simp only [Bool.and_eq_true, decide_eq_true_eq] at m
  obtain ⟨m1, m2, m3, m4, m5⟩ := m
  have T : Txt K mg := {
    f_all := He.free_ok X G (c.fact 31 (f := .free "all") rfl)
    f_bool := He.free_ok X G (c.fact 32 (f := .free "bool") rfl)
    f_int := He.free_ok X G (c.fact 33 (f := .free "int") rfl)
    f_isinstance := He.free_ok X G (c.fact 34 (f := .free "isinstance") rfl)
    f_len := He.free_ok X G (c.fact 35 (f := .free "len") rfl)
    f_list := He.free_ok X G (c.fact 36 (f := .free "list") rfl)
    f_max := He.free_ok X G (c.fact 37 (f := .free "max") rfl)
    f_min := He.free_ok X G (c.fact 38 (f := .free "min") rfl)
    f_range := He.free_ok X G (c.fact 39 (f := .free "range") rfl)
    f_set := He.free_ok X G (c.fact 40 (f := .free "set") rfl)
    f_sorted := He.free_ok X G (c.fact 41 (f := .free "sorted") rfl)
    f_str := He.free_ok X G (c.fact 42 (f := .free "str") rfl)
    f_tuple := He.free_ok X G (c.fact 43 (f := .free "tuple") rfl)
    g_MOST_NAME := He.int_ok X G (c.fact 44 (f := .int "MOST_NAME" 12) rfl)
    g_MOST_PINS := He.int_ok X G (c.fact 45 (f := .int "MOST_PINS" 4) rfl)
    g_MOST_LINES := He.int_ok X G (c.fact 46 (f := .int "MOST_LINES" 400) rfl)
    g_MOST_SOURCES := He.int_ok X G (c.fact 47 (f := .int "MOST_SOURCES" 40) rfl)
    g__LETTERS := He.str_ok X G (c.fact 48 (f := .str "_LETTERS" "abcdefghijklmnopqrstuvwxyz") rfl)
    g__CHARACTERS := He.str_ok X G (c.fact 49 (f := .str "_CHARACTERS" "abcdefghijklmnopqrstuvwxyz0123456789_") rfl)
    g_KINDS := He.glo_ok X G (c.fact 28 (f := .glo "KINDS") rfl)
    t_KINDS := fun H => by
      have := He.tupB_ok m5 H
      have e : kinD.map (He.Dv.v K) = KIN.map V.str := by unfold kinD; rw [List.map_map]; rfl
      rw [e] at this
      exact this
    k_Circuit := He.cls_ok (c.fact 29 (f := .cls "Circuit") rfl)
    a_Circuit := fun f hf => by
      simp only [List.mem_cons, List.not_mem_nil, or_false] at hf
      rcases hf with rfl | rfl | rfl | rfl | rfl | rfl
      · exact He.noat_ok (c.fact 50 (f := .noat "Circuit" "inputs") rfl)
      · exact He.noat_ok (c.fact 51 (f := .noat "Circuit" "registers") rfl)
      · exact He.noat_ok (c.fact 52 (f := .noat "Circuit" "gates") rfl)
      · exact He.noat_ok (c.fact 53 (f := .noat "Circuit" "outputs") rfl)
      · exact He.noat_ok (c.fact 54 (f := .noat "Circuit" "gate_of") rfl)
      · exact He.noat_ok (c.fact 55 (f := .noat "Circuit" "order") rfl)
    c_BadCircuit := He.glo_ok X G (c.fact 27 (f := .glo "BadCircuit") rfl)
    x_BadCircuit := xfB_ok m4
    n_reason := He.noat_ok (c.fact 56 (f := .noat "BadCircuit" "reason") rfl)
    n_name := He.noat_ok (c.fact 57 (f := .noat "BadCircuit" "name") rfl)
    e_BadCircuit := He.exm_ok (c.fact 30 (f := .exm "BadCircuit" "BadCircuit" true) rfl) }
  have X_BadCircuit : Xm P w K mg base "BadCircuit" (He.ga K "BadCircuit") (spX2 (He.ga K "BadCircuit") "reason" "name") := by
    obtain ⟨fd, F⟩ := c.def_ 26 (d := dd_iBadCircuit) rfl
    exact xm_BadCircuit F T.c_BadCircuit (oexB_ok m1) m2 m3 T.n_reason T.n_name
  have D_is_name : Dx K mg "is_name" ["value"] s_is_name := by
    obtain ⟨fd, F⟩ := c.def_ 0 (d := dd_is_name) rfl
    exact ⟨_, fd, He.glo_ok X G (c.fact 0 (f := .glo "is_name") rfl), F, F.bindsN fun _ _ _ _ _ _ us hl => match us, hl with | [_], _ => rfl⟩
  have D_may_have : Dx K mg "_may_have" ["kind", "count"] s_may_have := by
    obtain ⟨fd, F⟩ := c.def_ 1 (d := dd_may_have) rfl
    exact ⟨_, fd, He.glo_ok X G (c.fact 1 (f := .glo "_may_have") rfl), F, F.bindsN fun _ _ _ _ _ _ us hl => match us, hl with | [_, _], _ => rfl⟩
  have D_are_names : Dx K mg "_are_names" ["items"] s_are_names := by
    obtain ⟨fd, F⟩ := c.def_ 2 (d := dd_are_names) rfl
    exact ⟨_, fd, He.glo_ok X G (c.fact 2 (f := .glo "_are_names") rfl), F, F.bindsN fun _ _ _ _ _ _ us hl => match us, hl with | [_], _ => rfl⟩
  have D_is_register : Dx K mg "_is_register" ["value"] s_is_register := by
    obtain ⟨fd, F⟩ := c.def_ 3 (d := dd_is_register) rfl
    exact ⟨_, fd, He.glo_ok X G (c.fact 3 (f := .glo "_is_register") rfl), F, F.bindsN fun _ _ _ _ _ _ us hl => match us, hl with | [_], _ => rfl⟩
  have D_is_gate : Dx K mg "is_gate" ["value"] s_is_gate := by
    obtain ⟨fd, F⟩ := c.def_ 4 (d := dd_is_gate) rfl
    exact ⟨_, fd, He.glo_ok X G (c.fact 4 (f := .glo "is_gate") rfl), F, F.bindsN fun _ _ _ _ _ _ us hl => match us, hl with | [_], _ => rfl⟩
  have D_check_form : Dx K mg "_check_form" ["inputs", "registers", "gates", "outputs"] s_check_form := by
    obtain ⟨fd, F⟩ := c.def_ 5 (d := dd_check_form) rfl
    exact ⟨_, fd, He.glo_ok X G (c.fact 5 (f := .glo "_check_form") rfl), F, F.bindsN fun _ _ _ _ _ _ us hl => match us, hl with | [_, _, _, _], _ => rfl⟩
  have D_check_driven_once : Dx K mg "_check_driven_once" ["lines"] s_check_driven_once := by
    obtain ⟨fd, F⟩ := c.def_ 6 (d := dd_check_driven_once) rfl
    exact ⟨_, fd, He.glo_ok X G (c.fact 6 (f := .glo "_check_driven_once") rfl), F, F.bindsN fun _ _ _ _ _ _ us hl => match us, hl with | [_], _ => rfl⟩
  have D_check_known : Dx K mg "_check_known" ["lines", "names"] s_check_known := by
    obtain ⟨fd, F⟩ := c.def_ 7 (d := dd_check_known) rfl
    exact ⟨_, fd, He.glo_ok X G (c.fact 7 (f := .glo "_check_known") rfl), F, F.bindsN fun _ _ _ _ _ _ us hl => match us, hl with | [_, _], _ => rfl⟩
  have D_check_size : Dx K mg "_check_size" ["lines", "sources"] s_check_size := by
    obtain ⟨fd, F⟩ := c.def_ 8 (d := dd_check_size) rfl
    exact ⟨_, fd, He.glo_ok X G (c.fact 8 (f := .glo "_check_size") rfl), F, F.bindsN fun _ _ _ _ _ _ us hl => match us, hl with | [_, _], _ => rfl⟩
  have D_in_order : Dx K mg "_in_order" ["sources", "gates"] s_in_order := by
    obtain ⟨fd, F⟩ := c.def_ 9 (d := dd_in_order) rfl
    exact ⟨_, fd, He.glo_ok X G (c.fact 9 (f := .glo "_in_order") rfl), F, F.bindsN fun _ _ _ _ _ _ us hl => match us, hl with | [_, _], _ => rfl⟩
  have D_Circuit_lines : Dm K (He.ga K "Circuit") "lines" "Circuit.lines" ["self"] s_Circuit_lines := by
    obtain ⟨fd, F⟩ := c.def_ 10 (d := dd_Circuit_lines) rfl
    exact ⟨_, fd, He.meth_ok (c.fact 11 (f := .meth "Circuit" "lines") rfl), F, F.bindsN fun _ _ _ _ _ _ us hl => match us, hl with | [_], _ => rfl⟩
  have D_Circuit_sources : Dm K (He.ga K "Circuit") "sources" "Circuit.sources" ["self"] s_Circuit_sources := by
    obtain ⟨fd, F⟩ := c.def_ 11 (d := dd_Circuit_sources) rfl
    exact ⟨_, fd, He.meth_ok (c.fact 12 (f := .meth "Circuit" "sources") rfl), F, F.bindsN fun _ _ _ _ _ _ us hl => match us, hl with | [_], _ => rfl⟩
  have D_Circuit_init : Di K mg (He.ga K "Circuit") "Circuit" "Circuit.__init__" ["self", "inputs", "registers", "gates", "outputs"] s_Circuit_init := by
    obtain ⟨fd, F⟩ := c.def_ 12 (d := dd_Circuit_init) rfl
    exact ⟨_, fd, He.glo_ok X G (c.fact 10 (f := .glo "Circuit") rfl), He.mkr_ok (c.fact 13 (f := .mkr "Circuit") rfl), F, F.bindsN fun _ _ _ _ _ _ us hl => match us, hl with | [_, _, _, _, _], _ => rfl⟩
  have D_Circuit_parts : Dm K (He.ga K "Circuit") "parts" "Circuit.parts" ["self"] s_Circuit_parts := by
    obtain ⟨fd, F⟩ := c.def_ 13 (d := dd_Circuit_parts) rfl
    exact ⟨_, fd, He.meth_ok (c.fact 14 (f := .meth "Circuit" "parts") rfl), F, F.bindsN fun _ _ _ _ _ _ us hl => match us, hl with | [_], _ => rfl⟩
  have D_law_cell : Dx K mg "_law_cell" ["script", "k"] s_law_cell := by
    obtain ⟨fd, F⟩ := c.def_ 14 (d := dd_law_cell) rfl
    exact ⟨_, fd, He.glo_ok X G (c.fact 15 (f := .glo "_law_cell") rfl), F, F.bindsN fun _ _ _ _ _ _ us hl => match us, hl with | [_, _], _ => rfl⟩
  have D_law_rich : Dx K mg "_law_rich" ["cell", "k"] s_law_rich := by
    obtain ⟨fd, F⟩ := c.def_ 15 (d := dd_law_rich) rfl
    exact ⟨_, fd, He.glo_ok X G (c.fact 16 (f := .glo "_law_rich") rfl), F, F.bindsN fun _ _ _ _ _ _ us hl => match us, hl with | [_, _], _ => rfl⟩
  have D_law_gate : Dx K mg "_law_gate" ["rich", "known", "name"] s_law_gate := by
    obtain ⟨fd, F⟩ := c.def_ 16 (d := dd_law_gate) rfl
    exact ⟨_, fd, He.glo_ok X G (c.fact 17 (f := .glo "_law_gate") rfl), F, F.bindsN fun _ _ _ _ _ _ us hl => match us, hl with | [_, _, _], _ => rfl⟩
  have D_law_parts : Dx K mg "_law_parts" ["script", "most"] s_law_parts := by
    obtain ⟨fd, F⟩ := c.def_ 17 (d := dd_law_parts) rfl
    exact ⟨_, fd, He.glo_ok X G (c.fact 18 (f := .glo "_law_parts") rfl), F, F.bindsN fun _ _ _ _ _ _ us hl => match us, hl with | [_, _], _ => rfl⟩
  have D_law_changed : Dx K mg "_law_changed" ["parts", "rich"] s_law_changed := by
    obtain ⟨fd, F⟩ := c.def_ 18 (d := dd_law_changed) rfl
    exact ⟨_, fd, He.glo_ok X G (c.fact 19 (f := .glo "_law_changed") rfl), F, F.bindsN fun _ _ _ _ _ _ us hl => match us, hl with | [_, _], _ => rfl⟩
  have D_law_is_name : Dx K mg "_law_is_name" ["word"] s_law_is_name := by
    obtain ⟨fd, F⟩ := c.def_ 19 (d := dd_law_is_name) rfl
    exact ⟨_, fd, He.glo_ok X G (c.fact 20 (f := .glo "_law_is_name") rfl), F, F.bindsN fun _ _ _ _ _ _ us hl => match us, hl with | [_], _ => rfl⟩
  have D_law_is_gate : Dx K mg "_law_is_gate" ["gate"] s_law_is_gate := by
    obtain ⟨fd, F⟩ := c.def_ 20 (d := dd_law_is_gate) rfl
    exact ⟨_, fd, He.glo_ok X G (c.fact 21 (f := .glo "_law_is_gate") rfl), F, F.bindsN fun _ _ _ _ _ _ us hl => match us, hl with | [_], _ => rfl⟩
  have D_law_forms : Dx K mg "_law_forms" ["parts"] s_law_forms := by
    obtain ⟨fd, F⟩ := c.def_ 21 (d := dd_law_forms) rfl
    exact ⟨_, fd, He.glo_ok X G (c.fact 22 (f := .glo "_law_forms") rfl), F, F.bindsN fun _ _ _ _ _ _ us hl => match us, hl with | [_], _ => rfl⟩
  have D_law_due : Dx K mg "_law_due" ["parts"] s_law_due := by
    obtain ⟨fd, F⟩ := c.def_ 22 (d := dd_law_due) rfl
    exact ⟨_, fd, He.glo_ok X G (c.fact 23 (f := .glo "_law_due") rfl), F, F.bindsN fun _ _ _ _ _ _ us hl => match us, hl with | [_], _ => rfl⟩
  have D_law_told : Dx K mg "_law_told" ["parts"] s_law_told := by
    obtain ⟨fd, F⟩ := c.def_ 23 (d := dd_law_told) rfl
    exact ⟨_, fd, He.glo_ok X G (c.fact 24 (f := .glo "_law_told") rfl), F, F.bindsN fun _ _ _ _ _ _ us hl => match us, hl with | [_], _ => rfl⟩
  have D_law_great : Dx K mg "_law_great" ["cell"] s_law_great := by
    obtain ⟨fd, F⟩ := c.def_ 24 (d := dd_law_great) rfl
    exact ⟨_, fd, He.glo_ok X G (c.fact 25 (f := .glo "_law_great") rfl), F, F.bindsN fun _ _ _ _ _ _ us hl => match us, hl with | [_], _ => rfl⟩
  have D_law : Dx K mg "law" ["script"] s_law := by
    obtain ⟨fd, F⟩ := c.def_ 25 (d := dd_law) rfl
    exact ⟨_, fd, He.glo_ok X G (c.fact 26 (f := .glo "law") rfl), F, F.bindsN fun _ _ _ _ _ _ us hl => match us, hl with | [_], _ => rfl⟩
  have G_is_name := k_is_name (P := P) (w := w) (base := base) T D_is_name 
  have G__may_have := k_may_have (P := P) (w := w) (base := base) T D_may_have 
  have G__are_names := k_are_names (P := P) (w := w) (base := base) T D_are_names G_is_name
  have G__is_register := k_is_register (P := P) (w := w) (base := base) T D_is_register G__are_names
  have G_is_gate := k_is_gate (P := P) (w := w) (base := base) T D_is_gate G__may_have G__are_names
  have G__check_form := k_check_form (P := P) (w := w) (base := base) T D_check_form G__are_names G__is_register G_is_gate X_BadCircuit
  have G__check_driven_once := k_check_driven_once (P := P) (w := w) (base := base) T D_check_driven_once X_BadCircuit
  have G__check_known := k_check_known (P := P) (w := w) (base := base) T D_check_known X_BadCircuit
  have G__check_size := k_check_size (P := P) (w := w) (base := base) T D_check_size X_BadCircuit
  have G__in_order := k_in_order (P := P) (w := w) (base := base) T D_in_order X_BadCircuit
  have M_Circuit_sources := k_Circuit_sources (P := P) (w := w) (base := base) T D_Circuit_sources 
  have M_Circuit_lines := k_Circuit_lines (P := P) (w := w) (base := base) T D_Circuit_lines M_Circuit_sources
  have I_Circuit := k_Circuit_init (P := P) (w := w) (base := base) T D_Circuit_init G__check_form G__check_driven_once M_Circuit_lines G__check_known G__check_size M_Circuit_sources G__in_order
  have M_Circuit_parts := k_Circuit_parts (P := P) (w := w) (base := base) T D_Circuit_parts 
  have G__law_cell := k_law_cell (P := P) (w := w) (base := base) T D_law_cell 
  have G__law_rich := k_law_rich (P := P) (w := w) (base := base) T D_law_rich 
  have G__law_gate := k_law_gate (P := P) (w := w) (base := base) T D_law_gate 
  have G__law_parts := k_law_parts (P := P) (w := w) (base := base) T D_law_parts G__law_cell G__law_gate G__law_rich
  have G__law_changed := k_law_changed (P := P) (w := w) (base := base) T D_law_changed 
  have G__law_is_name := k_law_is_name (P := P) (w := w) (base := base) T D_law_is_name 
  have G__law_is_gate := k_law_is_gate (P := P) (w := w) (base := base) T D_law_is_gate G__law_is_name
  have G__law_forms := k_law_forms (P := P) (w := w) (base := base) T D_law_forms G__law_is_name G__law_is_gate
  have G__law_due := k_law_due (P := P) (w := w) (base := base) T D_law_due G__law_forms
  have G__law_told := k_law_told (P := P) (w := w) (base := base) T D_law_told I_Circuit
  have G__law_great := k_law_great (P := P) (w := w) (base := base) T D_law_great 
  exact k_law T D_law G__law_parts G__law_cell G__law_changed G__law_rich G__law_forms G__law_told G__law_due G__law_great
end
end CC
set_option maxHeartbeats 0
namespace CC
open PySem PySem.Spec PyProof.Rows L2 Qw
def loose1 : List PySem.Str := (["_wall", "ProbeError", "BadCircuit", "MOST_NAME", "MOST_PINS", "MOST_LINES", "MOST_SOURCES", "_LETTERS", "_CHARACTERS", "is_name", "KINDS", "_may_have", "_are_names", "_is_register", "is_gate", "_check_form"] : List PySem.Str) ++ (["_check_driven_once", "_check_known", "_check_size", "_in_order", "Circuit", "_law_cell", "_law_rich", "_law_gate", "_law_parts", "_law_circuit", "_law_changed", "_law_is_name", "_law_is_gate", "_law_forms", "_law_due", "_law_told"] : List PySem.Str) ++ (["_law_great"] : List PySem.Str)
theorem run (w : World) : HandSHeadRun.RunEq RR (PySem.W.view RR.prog [37]) hk ob 4000 loose1 w := by
  intro os
  kernel_rfl
end CC
namespace CC
open PySem PySem.Spec PyProof.Rows L2 Qw
open Pw (Dt Rp RpL Wk)
theorem ints_rel {K : PySem.W.Frag} {F : Hp} : ∀ ns : List Int, RpL K F (ns.map Dt.int) (ns.map V.int)
  | [] => rfl
  | n :: ns => ⟨V.int n, ns.map V.int, rfl, rfl, ints_rel ns⟩
theorem quiet {P : Program} {w : World} {K : PySem.W.Frag} {mg : Str → Option Value} {base : Heap} {k : Nat} {f : Addr} {fd : FuncData} {ps : List Str} {sp : Sp} (F : FnOk P w K mg base (L2.CX P w) k f fd ps sp) : FnOk P w K mg base CX0 k f fd ps (fun vs H Q _ => sp vs H Q E0) :=
  ⟨fun vs H Q _ h => F.len vs H Q E0 h, fun A outer s H args us vs Q E hr he hb hv h => codeAny_mono (F.run A outer s H args us vs Q E0 hr he hb hv h) fun r s' z => by
    cases r with
    | error e =>
      obtain ⟨_, _, _, _, _, _, _, _, _, _, _, _, q⟩ := (show L2.CX P w outer H s E0 e s' from z)
      exact q.elim
    | ok v => cases v <;> exact z⟩
theorem facts {P : Program} {w : World} {K : PySem.W.Frag} {h : Heap} {mg : Str → Option Value} {f : Addr} (X : K.In h) (G : h.Ns mainGlobals mg) (hfa : mg ("law" : Str) = some (.ref f)) (c : He.SaysD faL fnL K) (m : exB K = true) :
    ∀ base : Heap, ∃ fd : FuncData, FunD K "law" "law" (defArgs s_law) (defBody s_law) (defScope s_law) [] [] f fd ∧ FnOk P w K mg base CX0 8 f fd ["script"] (fun vs H Q _ => spR P w K R_law vs H Q E0) := by
  intro base
  obtain ⟨f', fd', h1, F, h4⟩ := lawOk (P := P) (w := w) X G c m base
  have e : f' = f := by
    rw [hfa] at h1
    exact (Value.ref.inj (Option.some.inj h1)).symm
  subst e
  exact ⟨fd', F, quiet h4⟩
theorem one {K : PySem.W.Frag} {f : Addr} {fd fd' : FuncData} (F : FunD K "law" "law" (defArgs s_law) (defBody s_law) (defScope s_law) [] [] f fd) (F' : FunD K "law" "law" (defArgs s_law) (defBody s_law) (defScope s_law) [] [] f fd') : fd = fd' := by
  obtain ⟨_, _, _, _, _, _, _, _, _, _, _, l1, _⟩ := F.ex
  obtain ⟨_, _, _, _, _, _, _, _, _, _, _, l2, _⟩ := F'.ex
  rw [l1] at l2
  have e3 := Option.some.inj l2
  injection e3 with _ _ e4 _
  injection e4
theorem facts1 {P : Program} {w : World} {K : PySem.W.Frag} {h : Heap} {mg : Str → Option Value} {f : Addr} (X : K.In h) (G : h.Ns mainGlobals mg) (hfa : mg ("law" : Str) = some (.ref f)) (c : He.SaysD faL fnL K) (m : exB K = true) :
    ∃ fd : FuncData, (∀ (s : Shared) (v : Value), BindsTo s fd ⟨[v], []⟩ [("script", v)]) ∧ ∀ base : Heap, FnOk P w K mg base CX0 8 f fd ["script"] (fun vs H Q _ => spR P w K R_law vs H Q E0) := by
  obtain ⟨fd, F, _⟩ := facts (P := P) (w := w) X G hfa c m h
  have b := FunD.bindsA (ps := ["script"]) F fun _ _ _ _ _ _ us hl => match us, hl with | [_], _ => rfl
  refine ⟨fd, fun s v => b s [v] rfl, fun base => ?_⟩
  obtain ⟨fd', F', h4⟩ := facts (P := P) (w := w) X G hfa c m base
  rw [one F F']
  exact h4
end CC
open PySem PySem.W PySem.Calls PyProof.Rows
theorem PySem.Challenge.cw_probewright_k02_parts_that_make_no_circu_holds : PySem.Challenge.rw_probewright_k02_parts_that_make_no_circu.Holds := by
  w_on; o_law
  refine HandSHeadRun.head_any (r := OpenLaw.row PySem.Challenge.rw_probewright_k02_parts_that_make_no_circu) (q := view (OpenLaw.row PySem.Challenge.rw_probewright_k02_parts_that_make_no_circu).prog [37]) (H := CC.hk) (ob := CC.ob) (M := 4000) (loose := CC.loose1) (d := HandSHeadRun.topDef (OpenLaw.row PySem.Challenge.rw_probewright_k02_parts_that_make_no_circu).prog 37) (kwd := []) CC.ob_eq
    (by kernel_rfl) (fun s => by kernel_rfl) CC.run (by kernel_rfl) (by kernel_rfl) (by kernel_rfl) (by rfl) (by first | assumption | decide +kernel) (by decide +kernel) ⟨rfl, rfl, rfl, rfl, rfl, by decide +kernel⟩ ?hw ?hc
  case hw => w_witness2
  case hc =>
    refine L2.walk_ofE (l := PySem.Challenge.rw_probewright_k02_parts_that_make_no_circu) (n := 63) (k := 8) (x := "script") (CX := L2.CX0) rfl (by decide) (by kernel_rfl) ⟨rfl, by decide, by decide⟩ ?F (fun _ _ _ _ z => z)
    intro w mg fa h Y G hmg0
    obtain ⟨K, KX, c⟩ := Y
    have hmg : mg ("law" : PySem.Str) = some (.ref fa) := by
      have e : (HandSHeadRun.topDef (OpenLaw.row PySem.Challenge.rw_probewright_k02_parts_that_make_no_circu).prog 37).name = ("law" : PySem.Str) := by kernel_rfl
      rw [← e]
      exact hmg0
    obtain ⟨fd, hb, hF⟩ := CC.facts1 (P := (PySem.Challenge.rw_probewright_k02_parts_that_make_no_circu).prog) (w := w) KX G hmg c.t.d c.more
    refine ⟨K, fd, _, KX, hb, fun H a ns hl _ hS => ?_, fun base _ _ => hF base⟩
    exact ⟨H, [.lst (ns.map Pw.Dt.int)], .d (.bl true), Evl.Ex.refl H, ⟨.ref a, [], rfl, ⟨a, ns.map L2.V.int, rfl, hS, CC.ints_rel ns⟩, rfl⟩, ⟨ns, rfl, rfl⟩, fun v F' H' _ r => r⟩

