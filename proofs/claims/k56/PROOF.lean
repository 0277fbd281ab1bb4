import PyProof.Rows.All
import Wide.All
import OpenK.AllK
import Wide.FinOn
import PyProof.EqAt
import PyProof.EqKinds
import PyProof.TupleCall
import HandS.Base
import HandS.Call
import HandS.List
import HandS.Comp
import HandS.Ends
import HandS.Text
import HandS.Iter
import HandS.Exc
import HandS.Words
import HandS.WordsExc
import HandS.Defaults
import HandS.Wide
import HandS.IsInst
import HandS.Walk
import HandS.Evl
import HandS.Steps
import HandS.ExcInit
import HandS.ExcOwn
import KE.KExcIs
import HandS.HeadHook4
import HandS.Head2
import HandS.HeadEnd
import HandS.HeadWalk
import HandS.ExcValue
import HandS.SetKeys
import HandS.Star
import HandS.Dict
import HandS.DictComp
import HandS.Deep
import HandS.Style
import HandS.ExcField
import HandS.TryOnly
import HandS.TryMany
import HandS.Zip
import HandS.Codes
import HandS.TupAny
import PyProof.StrBlock2
import HandS.HeadHook1
import HandS.TupMul
import HandS.Conv
import HandS.SortKw
import HandS.ExcIs
import HandS.RevRange
import PySem.Challenge.RW_probewright_k56_logs_are_read_strictly
set_option Elab.async false
set_option linter.all false
set_option maxRecDepth 100000
set_option maxHeartbeats 2000000
namespace Pw
open PySem PySem.Spec PyProof.Rows L2 Evl

/-! ### data: what a value stands for, whatever the addresses -/
inductive Dt where
  | non | bl (b : Bool) | int (i : Int) | str (x : Str)
  | tup (ds : List Dt) | lst (ds : List Dt)
  | dic (ks : List Key) (ds : List Dt) | dit (ks : List (List Key)) (ds : List Dt)
  | obj (C : Addr) (fs : List Str) (ds : List Dt)
  | exc (C : Addr) (fs : List Str) (ds : List Dt)
  | ty (n : String) | adr (a : Addr)

mutual
def Rp (K : PySem.W.Frag) (H : Hp) : Dt → V → Prop
  | .non, v => v = .non
  | .bl b, v => v = .bl b
  | .int i, v => v = .int i
  | .str x, v => v = .str x
  | .tup ds, v => ∃ a vs, v = .ref a ∧ SqT K H a vs ∧ RpL K H ds vs
  | .lst ds, v => ∃ a vs, v = .ref a ∧ SqL K H a vs ∧ RpL K H ds vs
  | .dic ks ds, v => ∃ a vs, v = .ref a ∧ H a = some (.dK (ks.zip vs)) ∧ ks.length = vs.length ∧ RpL K H ds vs
  | .dit ks ds, v => ∃ a vs, v = .ref a ∧ H a = some (.dT (ks.zip vs)) ∧ ks.length = vs.length ∧ RpL K H ds vs
  | .obj C fs ds, v => ∃ a dx vs, v = .ref a ∧ H a = some (.ins C dx (fs.zip vs)) ∧ fs.length = vs.length ∧ RpL K H ds vs
  | .exc C fs ds, v => ∃ a vs, v = .ref a ∧ fs.length = vs.length ∧ RpL K H ds vs ∧ ((fs = [] ∧ H a = some (exo a C none)) ∨ ∃ dx, H a = some (exo a C (some dx)) ∧ H dx = some (exd dx (fs.zip vs)))
  | .ty n, v => v = .ty n
  | .adr a, v => v = .ref a
def RpL (K : PySem.W.Frag) (H : Hp) : List Dt → List V → Prop
  | [], vs => vs = []
  | d :: ds, vs => ∃ v r, vs = v :: r ∧ Rp K H d v ∧ RpL K H ds r
end

section
variable {K : PySem.W.Frag} {F H F' H' : Hp}
mutual
theorem Rp.mono (e : Ex H H') : ∀ {d : Dt} {v : V}, Rp K H d v → Rp K H' d v
  | .non, _, h => h
  | .bl _, _, h => h
  | .int _, _, h => h
  | .str _, _, h => h
  | .tup ds, v, h => by
    obtain ⟨a, vs, e1, h1, h2⟩ := h
    exact ⟨a, vs, e1, ex_t e h1, RpL.mono e h2⟩
  | .lst ds, v, h => by
    obtain ⟨a, vs, e1, h1, h2⟩ := h
    exact ⟨a, vs, e1, ex_l e h1, RpL.mono e h2⟩
  | .dic ks ds, v, h => by
    obtain ⟨a, vs, e1, h1, h3, h2⟩ := h
    exact ⟨a, vs, e1, e _ _ h1, h3, RpL.mono e h2⟩
  | .dit ks ds, v, h => by
    obtain ⟨a, vs, e1, h1, h3, h2⟩ := h
    exact ⟨a, vs, e1, e _ _ h1, h3, RpL.mono e h2⟩
  | .obj C fs ds, v, h => by
    obtain ⟨a, dx, vs, e1, h1, h3, h2⟩ := h
    exact ⟨a, dx, vs, e1, e _ _ h1, h3, RpL.mono e h2⟩
  | .exc C fs ds, v, h => by
    obtain ⟨a, vs, e1, h3, h2, h1⟩ := h
    refine ⟨a, vs, e1, h3, RpL.mono e h2, ?_⟩
    rcases h1 with ⟨z, h1⟩ | ⟨dx, h1, h4⟩
    · exact .inl ⟨z, e _ _ h1⟩
    · exact .inr ⟨dx, e _ _ h1, e _ _ h4⟩
  | .ty _, _, h => h
  | .adr _, _, h => h
theorem RpL.mono (e : Ex H H') : ∀ {ds : List Dt} {vs : List V}, RpL K H ds vs → RpL K H' ds vs
  | [], _, h => h
  | d :: ds, vs, h => by
    obtain ⟨v, r, e1, h1, h2⟩ := h
    exact ⟨v, r, e1, Rp.mono e h1, RpL.mono e h2⟩
end
theorem RpL.nil : RpL K H [] [] := rfl
theorem RpL.cons {d : Dt} {ds : List Dt} {v : V} {vs : List V} (h : Rp K H d v) (t : RpL K H ds vs) : RpL K H (d :: ds) (v :: vs) := ⟨v, vs, rfl, h, t⟩
theorem RpL.length : ∀ {ds : List Dt} {vs : List V}, RpL K H ds vs → ds.length = vs.length
  | [], vs, h => by
    cases (show vs = [] from h)
    rfl
  | d :: ds, vs, h => by
    obtain ⟨v, r, rfl, _, t⟩ := h
    simp [RpL.length t]
theorem RpL.get : ∀ {ds : List Dt} {vs : List V} {i : Nat} {d : Dt}, RpL K H ds vs → ds[i]? = some d → ∃ v, vs[i]? = some v ∧ Rp K H d v
  | [], _, _, _, _, e => by simp at e
  | d :: ds, vs, 0, d', h, e => by
    obtain ⟨v, r, rfl, q, t⟩ := h
    simp at e
    subst e
    exact ⟨v, by simp, q⟩
  | d :: ds, vs, i + 1, d', h, e => by
    obtain ⟨v, r, rfl, q, t⟩ := h
    obtain ⟨w, h1, h2⟩ := RpL.get (i := i) t (by simpa using e)
    exact ⟨w, by simpa using h1, h2⟩
theorem RpL.getV : ∀ {ds : List Dt} {vs : List V} {i : Nat} {v : V}, RpL K H ds vs → vs[i]? = some v → ∃ d, ds[i]? = some d ∧ Rp K H d v
  | [], vs, _, _, h, e => by
    cases (show vs = [] from h)
    simp at e
  | d :: ds, vs, 0, w, h, e => by
    obtain ⟨v, r, rfl, q, t⟩ := h
    simp at e
    subst e
    exact ⟨d, by simp, q⟩
  | d :: ds, vs, i + 1, w, h, e => by
    obtain ⟨v, r, rfl, q, t⟩ := h
    obtain ⟨w, h1, h2⟩ := RpL.getV (i := i) t (by simpa using e)
    exact ⟨w, by simpa using h1, h2⟩
theorem RpL.append : ∀ {ds es : List Dt} {vs us : List V}, RpL K H ds vs → RpL K H es us → RpL K H (ds ++ es) (vs ++ us)
  | [], _, vs, _, h, t => by
    cases (show vs = [] from h)
    exact t
  | d :: ds, es, vs, us, h, t => by
    obtain ⟨v, r, rfl, q, s⟩ := h
    exact ⟨v, r ++ us, rfl, q, RpL.append s t⟩
theorem RpL.set : ∀ {ds : List Dt} {vs : List V} {d : Dt} {v : V} (i : Nat), RpL K H ds vs → Rp K H d v → RpL K H (ds.set i d) (vs.set i v)
  | [], vs, _, _, _, h, q => by
    cases (show vs = [] from h)
    exact rfl
  | d :: ds, vs, d', v', 0, h, q => by
    obtain ⟨v, r, rfl, _, s⟩ := h
    exact ⟨v', r, rfl, q, s⟩
  | d :: ds, vs, d', v', i + 1, h, q => by
    obtain ⟨v, r, rfl, q', s⟩ := h
    exact ⟨v, r.set i v', rfl, q', RpL.set i s q⟩
theorem RpL.take : ∀ {ds : List Dt} {vs : List V} (i : Nat), RpL K H ds vs → RpL K H (ds.take i) (vs.take i)
  | [], vs, i, h => by
    cases (show vs = [] from h)
    simp [RpL]
  | d :: ds, vs, 0, h => by simp [RpL]
  | d :: ds, vs, i + 1, h => by
    obtain ⟨v, r, rfl, q', s⟩ := h
    exact ⟨v, r.take i, rfl, q', RpL.take i s⟩
theorem RpL.drop : ∀ {ds : List Dt} {vs : List V} (i : Nat), RpL K H ds vs → RpL K H (ds.drop i) (vs.drop i)
  | [], vs, i, h => by
    cases (show vs = [] from h)
    simp [RpL]
  | d :: ds, vs, 0, h => by simpa using h
  | d :: ds, vs, i + 1, h => by
    obtain ⟨v, r, rfl, q', s⟩ := h
    simpa using RpL.drop i s
theorem RpL.of : ∀ {ds : List Dt} {vs : List V}, ds.length = vs.length → (∀ (i : Nat) (d : Dt) (v : V), ds[i]? = some d → vs[i]? = some v → Rp K H d v) → RpL K H ds vs
  | [], vs, e, _ => List.length_eq_zero_iff.mp e.symm
  | d :: ds, [], e, _ => by simp at e
  | d :: ds, v :: vs, e, h => ⟨v, vs, rfl, h 0 d v rfl rfl, RpL.of (by simpa using e) fun i d' v' h1 h2 => h (i + 1) d' v' (by simpa using h1) (by simpa using h2)⟩
/-- ints alone -/
theorem RpL.ints : ∀ {ns : List Int} {vs : List V}, RpL K H (ns.map Dt.int) vs → vs = ns.map V.int
  | [], _, h => h
  | n :: ns, vs, h => by
    obtain ⟨v, r, rfl, q, s⟩ := h
    rw [show v = V.int n from q, RpL.ints s]
    rfl
theorem RpL.ofInts : ∀ {ns : List Int}, RpL K H (ns.map Dt.int) (ns.map V.int)
  | [] => rfl
  | n :: ns => ⟨V.int n, ns.map V.int, rfl, rfl, RpL.ofInts⟩
theorem RpL.bls : ∀ {ns : List Bool} {vs : List V}, RpL K H (ns.map Dt.bl) vs → vs = ns.map V.bl
  | [], _, h => h
  | n :: ns, vs, h => by
    obtain ⟨v, r, rfl, q, s⟩ := h
    rw [show v = V.bl n from q, RpL.bls s]
    rfl
end

/-! ### two heaps: F, what is data; H, all (the own lists too). How both grow -/
structure Wk (F H F' H' : Hp) : Prop where
  f : Ex F F'
  h : Ex H H'
  s : Ex F' H'
  n : ∀ a o, H a = some o → F a = none → F' a = none
section
variable {K : PySem.W.Frag} {F H F1 H1 F2 H2 : Hp}
theorem Wk.refl (e : Ex F H) : Wk F H F H := ⟨Ex.refl F, Ex.refl H, e, fun _ _ _ h => h⟩
theorem Wk.trans (a : Wk F H F1 H1) (b : Wk F1 H1 F2 H2) : Wk F H F2 H2 :=
  ⟨a.f.trans b.f, a.h.trans b.h, b.s, fun x o h1 h2 => b.n x o (a.h x o h1) (a.n x o h1 h2)⟩
theorem none_sub (e : Ex F H) {p : Addr} (h : H p = none) : F p = none := fresh_back e h
/-- a new object that is data -/
theorem Wk.new (e : Ex F H) {p : Addr} (o : HO) (h : H p = none) : Wk F H (upd F p o) (upd H p o) :=
  ⟨Ex.new (none_sub e h), Ex.new h, fun a u q => by
    by_cases z : a = p
    · subst z
      rw [upd_same] at q ⊢
      exact q
    · rw [upd_ne z] at q ⊢
      exact e a u q, fun a u q n => by
    have z : a ≠ p := ne_of_none q h
    rw [upd_ne z]
    exact n⟩
/-- a new object of one's own -/
theorem Wk.own (e : Ex F H) {p : Addr} (o : HO) (h : H p = none) : Wk F H F (upd H p o) :=
  ⟨Ex.refl F, Ex.new h, e.trans (Ex.new h), fun _ _ _ n => n⟩
/-- .. becomes data -/
theorem Wk.give {p : Addr} {o : HO} (e : Ex F H) (w : Wk F H F1 H1) (h0 : H p = none) (h : H1 p = some o) : Wk F H (upd F1 p o) H1 :=
  ⟨fun a u q => by
    have z : a ≠ p := ne_of_none q (none_sub e h0)
    rw [upd_ne z]
    exact w.f a u q, w.h, fun a u q => by
    by_cases z : a = p
    · subst z
      rw [upd_same] at q
      rw [h, ← q]
    · rw [upd_ne z] at q
      exact w.s a u q, fun a u q n => by
    have z : a ≠ p := ne_of_none q h0
    rw [upd_ne z]
    exact w.n a u q n⟩
end

/-! ### slots -/
inductive Sl where
  | x | u | d (d : Dt) | ol (ds : List Dt)
def SlOk (K : PySem.W.Frag) (F H0 H : Hp) (v : Option V) : Sl → Prop
  | .x => True
  | .u => v = none
  | .d d => ∃ w, v = some w ∧ Rp K F d w
  | .ol ds => ∃ p vs, v = some (.ref p) ∧ F p = none ∧ H0 p = none ∧ H p = some (.lst vs) ∧ RpL K F ds vs
abbrev En := List Sl
/-- the state: F0, H0 at the def's entry, F, H now -/
structure Sm (K : PySem.W.Frag) (F0 H0 F H : Hp) (σ : L2.St) (env : En) : Prop where
  e0 : Ex F0 H0
  g : Wk F0 H0 F H
  len : σ.length = env.length
  sl : ∀ (i : Nat) (s : Sl), env[i]? = some s → ∃ v, σ[i]? = some v ∧ SlOk K F H0 H v s
  df : ∀ (i j : Nat) (ds es : List Dt) (p : Addr), i ≠ j → env[i]? = some (.ol ds) → env[j]? = some (.ol es) → σ[i]? = some (some (.ref p)) → σ[j]? ≠ some (some (.ref p))
section
variable {K : PySem.W.Frag} {F0 H0 F H F' H' : Hp} {σ : L2.St} {env env' : En}
theorem SlOk.wk {v : Option V} {s : Sl} (w : Wk F H F' H') (h : SlOk K F H0 H v s) : SlOk K F' H0 H' v s := by
  cases s with
  | x => trivial
  | u => exact h
  | d d =>
    obtain ⟨u, e, r⟩ := h
    exact ⟨u, e, r.mono w.f⟩
  | ol ds =>
    obtain ⟨p, vs, e, h1, h2, h3, h4⟩ := h
    exact ⟨p, vs, e, w.n p _ h3 h1, h2, w.h p _ h3, h4.mono w.f⟩
theorem Sm.wk (S : Sm K F0 H0 F H σ env) (w : Wk F H F' H') : Sm K F0 H0 F' H' σ env :=
  ⟨S.e0, S.g.trans w, S.len, fun i s e => by
    obtain ⟨v, h1, h2⟩ := S.sl i s e
    exact ⟨v, h1, h2.wk w⟩, S.df⟩
theorem Sm.sub (S : Sm K F0 H0 F H σ env) : Ex F H := S.g.s
/-- an object that is nobody's slot is made or changed -/
theorem Sm.upd (S : Sm K F0 H0 F H σ env) {p : Addr} (o : HO) (hF : F p = none) (h0 : H0 p = none) (hp : ∀ (i : Nat) (ds : List Dt), env[i]? = some (.ol ds) → σ[i]? ≠ some (some (.ref p))) : Sm K F0 H0 F (L2.upd H p o) σ env :=
  ⟨S.e0, ⟨S.g.f, fun a u q => by
    rw [upd_ne (ne_of_none q h0)]
    exact S.g.h a u q, fun a u q => by
    rw [upd_ne (ne_of_none q hF)]
    exact S.g.s a u q, S.g.n⟩, S.len, fun i s e => by
    obtain ⟨v, h1, h2⟩ := S.sl i s e
    refine ⟨v, h1, ?_⟩
    cases s with
    | x => trivial
    | u => exact h2
    | d d => exact h2
    | ol ds =>
      obtain ⟨q, vs, ev, g1, g2, g3, g4⟩ := h2
      have ne : q ≠ p := fun z => hp i ds e (by rw [h1, ev, z])
      exact ⟨q, vs, ev, g1, g2, by rw [upd_ne ne]; exact g3, g4⟩, S.df⟩
theorem get_set {α : Type} {l : List α} {i j : Nat} {a b : α} (h : (l.set i a)[j]? = some b) : (i = j ∧ b = a ∧ i < l.length) ∨ (i ≠ j ∧ l[j]? = some b) := by
  rw [List.getElem?_set] at h
  by_cases e : i = j
  · rw [if_pos e] at h
    by_cases l : i < l.length
    · rw [if_pos l] at h
      exact .inl ⟨e, (Option.some.inj h).symm, l⟩
    · rw [if_neg l] at h
      cases h
  · rw [if_neg e] at h
    exact .inr ⟨e, h⟩
theorem set_same {α : Type} {l : List α} {i : Nat} {a : α} (h : i < l.length) : (l.set i a)[i]? = some a := by simp [h]
theorem set_ne {α : Type} {l : List α} {i j : Nat} {a : α} (h : i ≠ j) : (l.set i a)[j]? = l[j]? := by simp [h]
/-- slot i gets data -/
theorem Sm.setD (S : Sm K F0 H0 F H σ env) {i : Nat} {d : Dt} {v : V} (r : Rp K F d v) : Sm K F0 H0 F H (σ.set i (some v)) (env.set i (.d d)) :=
  ⟨S.e0, S.g, by simp [S.len], fun j s e => by
    rcases get_set e with ⟨rfl, rfl, l⟩ | ⟨ne, e⟩
    · exact ⟨some v, set_same (by rw [S.len]; exact l), v, rfl, r⟩
    · rw [set_ne ne]
      exact S.sl j s e, fun a b ds es p ne e1 e2 h => by
    rcases get_set e1 with ⟨_, z, _⟩ | ⟨n1, e1⟩
    · cases z
    · rcases get_set e2 with ⟨_, z, _⟩ | ⟨n2, e2⟩
      · cases z
      · rw [set_ne n1] at h
        rw [set_ne n2]
        exact S.df a b ds es p ne e1 e2 h⟩
/-- slot i gets a new list of its own -/
theorem Sm.setL (S : Sm K F0 H0 F H σ env) {i : Nat} {ds : List Dt} {p : Addr} {vs : List V} (hF : F p = none) (h0 : H0 p = none) (hp : H p = some (.lst vs)) (r : RpL K F ds vs) (hn : ∀ (j : Nat) (es : List Dt), env[j]? = some (.ol es) → σ[j]? ≠ some (some (.ref p))) :
    Sm K F0 H0 F H (σ.set i (some (.ref p))) (env.set i (.ol ds)) :=
  ⟨S.e0, S.g, by simp [S.len], fun j s e => by
    rcases get_set e with ⟨rfl, rfl, l⟩ | ⟨ne, e⟩
    · exact ⟨some (.ref p), set_same (by rw [S.len]; exact l), p, vs, rfl, hF, h0, hp, r⟩
    · rw [set_ne ne]
      exact S.sl j s e, fun a b ds es q ne e1 e2 h => by
    rcases get_set e1 with ⟨ra, z1, _⟩ | ⟨n1, e1⟩
    · rcases get_set e2 with ⟨rb, z2, _⟩ | ⟨n2, e2⟩
      · exact absurd (ra.symm.trans rb) ne
      · subst ra
        rw [set_ne n2]
        have l : i < σ.length := by
          rw [S.len]
          exact (by assumption)
        rw [set_same l] at h
        cases h
        exact hn b es e2
    · rcases get_set e2 with ⟨rb, z2, l⟩ | ⟨n2, e2⟩
      · subst rb
        rw [set_ne n1] at h
        intro q2
        rw [set_same (by rw [S.len]; exact l)] at q2
        cases q2
        exact hn a ds e1 h
      · rw [set_ne n1] at h
        rw [set_ne n2]
        exact S.df a b ds es q ne e1 e2 h⟩
/-- the own list in slot i becomes data -/
theorem Sm.freeze (S : Sm K F0 H0 F H σ env) {i : Nat} {ds : List Dt} (h : env[i]? = some (.ol ds)) :
    ∃ p vs, σ[i]? = some (some (.ref p)) ∧ F p = none ∧ H p = some (.lst vs) ∧ RpL K F ds vs ∧ Sm K F0 H0 (L2.upd F p (.lst vs)) H σ (env.set i (.d (.lst ds))) := by
  obtain ⟨v, h1, p, vs, rfl, g1, g2, g3, g4⟩ := S.sl i _ h
  have ex : Ex F (L2.upd F p (.lst vs)) := Ex.new g1
  refine ⟨p, vs, h1, g1, g3, g4, S.e0, S.g.give S.e0 g2 g3, by simp [S.len], fun j s e => ?_, fun a b ds es q ne e1 e2 h => ?_⟩
  · rcases get_set e with ⟨rfl, rfl, l⟩ | ⟨ne, e⟩
    · exact ⟨_, h1, .ref p, rfl, p, vs, rfl, SqL.of upd_same, g4.mono ex⟩
    · obtain ⟨w, k1, k2⟩ := S.sl j s e
      refine ⟨w, k1, ?_⟩
      cases s with
      | x => trivial
      | u => exact k2
      | d d =>
        obtain ⟨u, e, r⟩ := k2
        exact ⟨u, e, r.mono ex⟩
      | ol es =>
        obtain ⟨q, us, eq, f1, f2, f3, f4⟩ := k2
        have nq : q ≠ p := fun z => S.df i j ds es p ne h e h1 (by rw [k1, eq, z])
        exact ⟨q, us, eq, by rw [upd_ne nq]; exact f1, f2, f3, f4.mono ex⟩
  · rcases get_set e1 with ⟨_, z, _⟩ | ⟨n1, e1⟩
    · cases z
    · rcases get_set e2 with ⟨_, z, _⟩ | ⟨n2, e2⟩
      · cases z
      · exact S.df a b ds es q ne e1 e2 h
/-- forgetting -/
def Le (a b : En) : Prop := a.length = b.length ∧ ∀ (i : Nat) (s : Sl), b[i]? = some s → s = .x ∨ a[i]? = some s
theorem Le.refl (a : En) : Le a a := ⟨rfl, fun _ _ h => .inr h⟩
theorem Le.nil : Le [] [] := Le.refl _
theorem Le.x {a b : En} {s : Sl} (h : Le a b) : Le (s :: a) (.x :: b) := ⟨by simp [h.1], fun i t e => by
  cases i with
  | zero => exact .inl (by simpa using e.symm)
  | succ i => exact h.2 i t (by simpa using e)⟩
theorem Le.s {a b : En} {s : Sl} (h : Le a b) : Le (s :: a) (s :: b) := ⟨by simp [h.1], fun i t e => by
  cases i with
  | zero => exact .inr (by simpa using e)
  | succ i => exact h.2 i t (by simpa using e)⟩
theorem Sm.le (S : Sm K F0 H0 F H σ env) (l : Le env env') : Sm K F0 H0 F H σ env' :=
  ⟨S.e0, S.g, S.len.trans l.1, fun i s e => by
    rcases l.2 i s e with rfl | z
    · have hi : i < σ.length := by
        rw [S.len, l.1]
        exact (List.getElem?_eq_some_iff.mp e).1
      exact ⟨σ[i], by simp [hi], trivial⟩
    · exact S.sl i s z, fun a b ds es p ne e1 e2 h => by
    rcases l.2 a _ e1 with z | e1
    · cases z
    · rcases l.2 b _ e2 with z | e2
      · cases z
      · exact S.df a b ds es p ne e1 e2 h⟩
end
end Pw

set_option maxHeartbeats 2000000
namespace Pw
open PySem PySem.Spec PyProof.Rows L2 Evl

/-! ### judgements -/
variable (K : PySem.W.Frag)
/-- what is done with a value d -/
abbrev Kq (F H : Hp) (d : Dt) (Q : VK) : Prop := ∀ v F' H', Wk F H F' H' → Rp K F' d v → Q v H'
abbrev KqL (F H : Hp) (ds : List Dt) (Q : List V → Hp → Prop) : Prop := ∀ vs F' H', Wk F H F' H' → RpL K F' ds vs → Q vs H'
def Ee (te : TE) (env : En) (d : Dt) : Prop := ∀ F0 H0 F H σ, Sm K F0 H0 F H σ env → ∀ Q : VK, Kq K F H d Q → te σ H Q
def Te (tt : TT) (env : En) (b : Bool) : Prop := ∀ F0 H0 F H σ, Sm K F0 H0 F H σ env → ∀ Q : Bool → Hp → Prop, (∀ F' H', Wk F H F' H' → Q b H') → tt σ H Q
def EeA (ta : TA) (env : En) (ds : List Dt) : Prop := ∀ F0 H0 F H σ, Sm K F0 H0 F H σ env → ∀ Q : List V → Hp → Prop, KqL K F H ds Q → ta σ H Q
/-- a new list of one's own -/
def EnL (te : TE) (env : En) (ds : List Dt) : Prop := ∀ F0 H0 F H σ, Sm K F0 H0 F H σ env → ∀ Q : VK, (∀ p vs F' H', Wk F H F' H' → H p = none → F' p = none → H' p = some (.lst vs) → RpL K F' ds vs → Q (.ref p) H') → te σ H Q
def Oo (to : TO) (env : En) (o : Option Int) : Prop := ∀ F0 H0 F H σ, Sm K F0 H0 F H σ env → ∀ Q : Option Int → Hp → Prop, (∀ F' H', Wk F H F' H' → Q o H') → to σ H Q
/-- operations on values -/
def R2d (r : R2) (d e z : Dt) : Prop := ∀ F H x y, Ex F H → Rp K F d x → Rp K F e y → ∀ Q : VK, Kq K F H z Q → r x y H Q
def R1d (r : V → Hp → VK → Prop) (d z : Dt) : Prop := ∀ F H x, Ex F H → Rp K F d x → ∀ Q : VK, Kq K F H z Q → r x H Q
def RLd (r : List V → Hp → VK → Prop) (ds : List Dt) (z : Dt) : Prop := ∀ F H vs, Ex F H → RpL K F ds vs → ∀ Q : VK, Kq K F H z Q → r vs H Q
def RLn (r : List V → Hp → VK → Prop) (ds es : List Dt) : Prop := ∀ F H vs, Ex F H → RpL K F ds vs → ∀ Q : VK, (∀ p us F' H', Wk F H F' H' → H p = none → F' p = none → H' p = some (.lst us) → RpL K F' es us → Q (.ref p) H') → r vs H Q
variable {K}
section
variable {env : En} {ta tb te tc : TE} {t u : TT} {d e z : Dt} {r r' : R2}
theorem ee_var {i : Nat} (h : env[i]? = some (.d d) := by rfl) : Ee K (tVar i) env d := fun F0 H0 F H σ S Q q => by
  obtain ⟨v, h1, w, rfl, r⟩ := S.sl i _ h
  exact ⟨w, h1, q w F H (Wk.refl S.sub) r⟩
theorem ee_c {v : V} (h : ∀ F, Rp K F d v) : Ee K (tC v) env d := fun F0 H0 F H σ S Q q => q v F H (Wk.refl S.sub) (h F)
theorem ee_int {i : Int} : Ee K (tC (.int i)) env (.int i) := ee_c fun _ => rfl
theorem ee_bl {b : Bool} : Ee K (tC (.bl b)) env (.bl b) := ee_c fun _ => rfl
theorem ee_str {x : Str} : Ee K (tC (.str x)) env (.str x) := ee_c fun _ => rfl
theorem ee_non : Ee K (tC .non) env .non := ee_c fun _ => rfl
theorem ee_ty {n : String} : Ee K (tC (.ty n)) env (.ty n) := ee_c fun _ => rfl
theorem ee_adr {a : Addr} : Ee K (tC (.ref a)) env (.adr a) := ee_c fun _ => rfl
theorem ee_is (h : Ee K te env d) (e' : d = e) : Ee K te env e := by
  rw [← e']
  exact h
theorem te_is {b c : Bool} (h : Te K t env b) (e' : b = c) : Te K t env c := by
  rw [← e']
  exact h
theorem ee_op (ha : Ee K ta env d) (hb : Ee K tb env e) (hr : R2d K r d e z) : Ee K (tOp r ta tb) env z := fun F0 H0 F H σ S Q q =>
  ha F0 H0 F H σ S _ fun x F1 H1 w1 r1 => hb F0 H0 F1 H1 σ (S.wk w1) _ fun y F2 H2 w2 r2 => hr F2 H2 x y w2.s (r1.mono w2.f) r2 Q fun v F3 H3 w3 r3 => q v F3 H3 ((w1.trans w2).trans w3) r3
theorem ee_un {r : V → Hp → VK → Prop} (ha : Ee K ta env d) (hr : R1d K r d z) : Ee K (tUn r ta) env z := fun F0 H0 F H σ S Q q =>
  ha F0 H0 F H σ S _ fun x F1 H1 w1 r1 => hr F1 H1 x w1.s r1 Q fun v F3 H3 w3 r3 => q v F3 H3 (w1.trans w3) r3
theorem ea_nil : EeA K tNil env [] := fun F0 H0 F H σ S Q q => q [] F H (Wk.refl S.sub) rfl
theorem ea_cons {tr : TA} {ds : List Dt} (h : Ee K te env d) (hr : EeA K tr env ds) : EeA K (tCons te tr) env (d :: ds) := fun F0 H0 F H σ S Q q =>
  h F0 H0 F H σ S _ fun x F1 H1 w1 r1 => hr F0 H0 F1 H1 σ (S.wk w1) _ fun vs F2 H2 w2 r2 => q (x :: vs) F2 H2 (w1.trans w2) ⟨x, vs, rfl, r1.mono w2.f, r2⟩
theorem ee_cb {r : List V → Hp → VK → Prop} {ta : TA} {ds : List Dt} (h : EeA K ta env ds) (hr : RLd K r ds z) : Ee K (tCB r ta) env z := fun F0 H0 F H σ S Q q =>
  h F0 H0 F H σ S _ fun vs F1 H1 w1 r1 => hr F1 H1 vs w1.s r1 Q fun v F3 H3 w3 r3 => q v F3 H3 (w1.trans w3) r3
theorem en_cb {r : List V → Hp → VK → Prop} {ta : TA} {ds es : List Dt} (h : EeA K ta env ds) (hr : RLn K r ds es) : EnL K (tCB r ta) env es := fun F0 H0 F H σ S Q q =>
  h F0 H0 F H σ S _ fun vs F1 H1 w1 r1 => hr F1 H1 vs w1.s r1 Q fun p us F3 H3 w3 n1 n2 h3 r3 => q p us F3 H3 (w1.trans w3) (fresh_back w1.h n1) n2 h3 r3
/-- a new list as data -/
theorem ee_new {ds : List Dt} (h : EnL K te env ds) : Ee K te env (.lst ds) := fun F0 H0 F H σ S Q q =>
  h F0 H0 F H σ S Q fun p vs F1 H1 w n1 n2 h1 r1 => q (.ref p) (L2.upd F1 p (.lst vs)) H1 (w.give S.sub n1 h1) ⟨p, vs, rfl, SqL.of upd_same, r1.mono (Ex.new n2)⟩
theorem ee_tup {ta : TA} {ds : List Dt} (h : EeA K ta env ds) (hl : ds.length ≤ 100000 := by exact Nat.le_of_ble_eq_true rfl) : Ee K (tTup ta) env (.tup ds) := fun F0 H0 F H σ S Q q =>
  h F0 H0 F H σ S _ fun vs F1 H1 w1 r1 => ⟨sz_of (by rw [← r1.length]; exact hl), fun p hp => q (.ref p) (L2.upd F1 p (.tup vs)) (L2.upd H1 p (.tup vs)) (w1.trans (Wk.new w1.s _ hp)) ⟨p, vs, rfl, SqT.of upd_same, r1.mono (Ex.new (none_sub w1.s hp))⟩⟩
theorem en_lst {ta : TA} {ds : List Dt} (h : EeA K ta env ds) (hl : ds.length ≤ 100000 := by exact Nat.le_of_ble_eq_true rfl) : EnL K (tLst ta) env ds := fun F0 H0 F H σ S Q q =>
  h F0 H0 F H σ S _ fun vs F1 H1 w1 r1 => ⟨sz_of (by rw [← r1.length]; exact hl), fun p hp => q p vs F1 (L2.upd H1 p (.lst vs)) (w1.trans (Wk.own w1.s _ hp)) (fresh_back w1.h hp) (none_sub w1.s hp) upd_same r1⟩
theorem ee_lst {ta : TA} {ds : List Dt} (h : EeA K ta env ds) (hl : ds.length ≤ 100000 := by exact Nat.le_of_ble_eq_true rfl) : Ee K (tLst ta) env (.lst ds) := ee_new (en_lst h hl)
theorem ee_chain {a b : Bool} {f : Dt} (ha : Ee K ta env d) (hb : Ee K tb env e) (hr : R2d K r d e (.bl a)) (hc : a = true → Ee K tc env f) (hr' : a = true → R2d K r' e f (.bl b)) : Ee K (tChain r r' ta tb tc) env (.bl (a && b)) := fun F0 H0 F H σ S Q q =>
  ha F0 H0 F H σ S _ fun x F1 H1 w1 r1 => hb F0 H0 F1 H1 σ (S.wk w1) _ fun y F2 H2 w2 r2 => hr F2 H2 x y w2.s (r1.mono w2.f) r2 _ fun v F3 H3 w3 r3 => by
    refine ⟨a, r3, ?_⟩
    cases a with
    | true =>
      show tc σ H3 _
      exact hc rfl F0 H0 F3 H3 σ (((S.wk w1).wk w2).wk w3) _ fun c F4 H4 w4 r4 => hr' rfl F4 H4 y c w4.s (r2.mono (w3.f.trans w4.f)) r4 Q fun v F5 H5 w5 r5 => q v F5 H5 (((((w1.trans w2).trans w3)).trans w4).trans w5) r5
    | false =>
      show Q (.bl false) H3
      exact q _ F3 H3 ((w1.trans w2).trans w3) rfl

/-! ### tests -/
theorem te_test {b : Bool} (h : Ee K te env (.bl b)) : Te K (tTest te) env b := fun F0 H0 F H σ S Q q => h F0 H0 F H σ S _ fun v F1 H1 w1 r1 => ⟨b, r1, q F1 H1 w1⟩
theorem te_B {b : Bool} (h : Ee K te env (.bl b)) : Te K (tB te) env b := fun F0 H0 F H σ S Q q => h F0 H0 F H σ S _ fun v F1 H1 w1 r1 => ⟨b, r1, q F1 H1 w1⟩
theorem te_and {a b : Bool} (h1 : Te K t env a) (h2 : a = true → Te K u env b) : Te K (tAnd t u) env (a && b) := fun F0 H0 F H σ S Q q => h1 F0 H0 F H σ S _ fun F1 H1 w1 => by
  cases a with
  | true =>
    show u σ H1 Q
    exact h2 rfl F0 H0 F1 H1 σ (S.wk w1) Q fun F2 H2 w2 => q F2 H2 (w1.trans w2)
  | false =>
    show Q false H1
    exact q F1 H1 w1
theorem te_or {a b : Bool} (h1 : Te K t env a) (h2 : a = false → Te K u env b) : Te K (tOr t u) env (a || b) := fun F0 H0 F H σ S Q q => h1 F0 H0 F H σ S _ fun F1 H1 w1 => by
  cases a with
  | false =>
    show u σ H1 Q
    exact h2 rfl F0 H0 F1 H1 σ (S.wk w1) Q fun F2 H2 w2 => q F2 H2 (w1.trans w2)
  | true =>
    show Q true H1
    exact q F1 H1 w1
theorem te_not {a : Bool} (h : Te K t env a) : Te K (tNot t) env (!a) := fun F0 H0 F H σ S Q q => h F0 H0 F H σ S _ fun F1 H1 w1 => q F1 H1 w1
theorem ee_and {a b : Bool} (h1 : Ee K ta env (.bl a)) (h2 : a = true → Ee K tb env (.bl b)) : Ee K (tAndV ta tb) env (.bl (a && b)) := fun F0 H0 F H σ S Q q => h1 F0 H0 F H σ S _ fun v F1 H1 w1 r1 => ⟨a, r1, by
  cases a with
  | true =>
    show tb σ H1 Q
    exact h2 rfl F0 H0 F1 H1 σ (S.wk w1) Q fun v F2 H2 w2 r2 => q v F2 H2 (w1.trans w2) r2
  | false =>
    show Q (.bl false) H1
    exact q _ F1 H1 w1 rfl⟩
theorem ee_or {a b : Bool} (h1 : Ee K ta env (.bl a)) (h2 : a = false → Ee K tb env (.bl b)) : Ee K (tOrV ta tb) env (.bl (a || b)) := fun F0 H0 F H σ S Q q => h1 F0 H0 F H σ S _ fun v F1 H1 w1 r1 => ⟨a, r1, by
  cases a with
  | false =>
    show tb σ H1 Q
    exact h2 rfl F0 H0 F1 H1 σ (S.wk w1) Q fun v F2 H2 w2 r2 => q v F2 H2 (w1.trans w2) r2
  | true =>
    show Q (.bl true) H1
    exact q _ F1 H1 w1 rfl⟩
theorem ee_not {a : Bool} (h1 : Ee K ta env (.bl a)) : Ee K (tNotV ta) env (.bl (!a)) := fun F0 H0 F H σ S Q q => h1 F0 H0 F H σ S _ fun v F1 H1 w1 r1 => ⟨a, r1, q _ F1 H1 w1 rfl⟩
theorem ee_if {b : Bool} (h : Te K t env b) (h1 : b = true → Ee K ta env d) (h2 : b = false → Ee K tb env d) : Ee K (tIf t ta tb) env d := fun F0 H0 F H σ S Q q => h F0 H0 F H σ S _ fun F1 H1 w1 => by
  cases b with
  | true =>
    show ta σ H1 Q
    exact h1 rfl F0 H0 F1 H1 σ (S.wk w1) Q fun v F2 H2 w2 r2 => q v F2 H2 (w1.trans w2) r2
  | false =>
    show tb σ H1 Q
    exact h2 rfl F0 H0 F1 H1 σ (S.wk w1) Q fun v F2 H2 w2 r2 => q v F2 H2 (w1.trans w2) r2
def truD : Dt → Option Bool
  | .non => some false
  | .bl b => some b
  | .int i => some (i != 0)
  | .tup ds => some (!ds.isEmpty)
  | .lst ds => some (!ds.isEmpty)
  | _ => none
theorem isEmpty_rp {F : Hp} {ds : List Dt} {vs : List V} (h : RpL K F ds vs) : (!ds.isEmpty) = !vs.isEmpty := by
  have := h.length
  cases ds <;> cases vs <;> simp_all
theorem te_tru {b : Bool} (h : Ee K te env d) (hb : truD d = some b) : Te K (fun σ H Q => te σ H fun x H' => ∃ k, TruV K x H' k ∧ Q k H') env b := fun F0 H0 F H σ S Q q => h F0 H0 F H σ S _ fun v F1 H1 w1 r1 => by
  refine ⟨b, ?_, q F1 H1 w1⟩
  cases d <;> simp only [truD, Option.some.injEq, reduceCtorEq] at hb
  · cases r1; exact hb.symm
  · cases r1; exact hb.symm
  · cases r1; exact hb.symm
  · obtain ⟨a, vs, rfl, h1, h2⟩ := r1
    exact .inr (.inl ⟨vs, ex_t w1.s h1, by rw [← hb, isEmpty_rp h2]⟩)
  · obtain ⟨a, vs, rfl, h1, h2⟩ := r1
    exact .inl ⟨vs, ex_l w1.s h1, by rw [← hb, isEmpty_rp h2]⟩

/-! ### own lists lent to an expression whose value holds no object -/
def flatD : Dt → Bool
  | .non | .bl _ | .int _ | .str _ | .ty _ | .adr _ => true
  | _ => false
theorem Rp.flat {F F' : Hp} {v : V} (h : Rp K F d v) (f : flatD d = true) : Rp K F' d v := by
  cases d <;> first | exact h | cases f
theorem ee_lend {i : Nat} {ds : List Dt} (hi : env[i]? = some (.ol ds)) (h : Ee K te (env.set i (.d (.lst ds))) d) (f : flatD d = true := by rfl) : Ee K te env d := fun F0 H0 F H σ S Q q => by
  obtain ⟨p, vs, h1, h2, h3, h4, S'⟩ := S.freeze hi
  exact h F0 H0 _ H σ S' Q fun v F1 H1 w r => q v F H1 ⟨Ex.refl F, w.h, S.sub.trans w.h, fun _ _ _ n => n⟩ (r.flat f)
theorem te_lend {b : Bool} {i : Nat} {ds : List Dt} (hi : env[i]? = some (.ol ds)) (h : Te K t (env.set i (.d (.lst ds))) b) : Te K t env b := fun F0 H0 F H σ S Q q => by
  obtain ⟨p, vs, h1, h2, h3, h4, S'⟩ := S.freeze hi
  exact h F0 H0 _ H σ S' Q fun F1 H1 w => q F H1 ⟨Ex.refl F, w.h, S.sub.trans w.h, fun _ _ _ n => n⟩

/-! ### operations -/
theorem r2_I0 {g : Int → Int → Int} {i j : Int} : R2d K (rI0 fun i j => .int (g i j)) (.int i) (.int j) (.int (g i j)) := fun F H x y s r1 r2 Q q => ⟨i, j, r1, r2, q _ F H (Wk.refl s) rfl⟩
theorem r2_B0 {g : Int → Int → Bool} {i j : Int} : R2d K (rI0 fun i j => .bl (g i j)) (.int i) (.int j) (.bl (g i j)) := fun F H x y s r1 r2 Q q => ⟨i, j, r1, r2, q _ F H (Wk.refl s) rfl⟩
theorem r2_I {C : Int → Int → Prop} {g : Int → Int → Int} {i j : Int} (c : C i j) : R2d K (rI C fun i j => .int (g i j)) (.int i) (.int j) (.int (g i j)) := fun F H x y s r1 r2 Q q => ⟨i, j, r1, r2, c, q _ F H (Wk.refl s) rfl⟩
theorem r1_U {g : Int → Int} {i : Int} : R1d K (rU fun i => .int (g i)) (.int i) (.int (g i)) := fun F H x s r1 Q q => ⟨i, r1, q _ F H (Wk.refl s) rfl⟩
/-- a value that holds no object -/
def fl : Dt → V
  | .non => .non
  | .bl b => .bl b
  | .int i => .int i
  | .str x => .str x
  | .ty n => .ty n
  | .adr a => .ref a
  | _ => .non
theorem Rp.fl {F : Hp} {v : V} (h : Rp K F d v) (f : flatD d = true) : v = Pw.fl d := by
  cases d <;> first | exact h | cases f
theorem r2_eq (fd : flatD d = true := by rfl) (fe : flatD e = true := by rfl) (hs : scal (fl d) (fl e) = true := by rfl) : R2d K rEq d e (.bl (decide (fl d = fl e))) := fun F H x y s r1 r2 Q q => by
  rw [r1.fl fd, r2.fl fe]
  exact ⟨hs, q _ F H (Wk.refl s) rfl⟩
theorem r2_ne (fd : flatD d = true := by rfl) (fe : flatD e = true := by rfl) (hs : scal (fl d) (fl e) = true := by rfl) : R2d K rNe d e (.bl (!decide (fl d = fl e))) := fun F H x y s r1 r2 Q q => by
  rw [r1.fl fd, r2.fl fe]
  exact ⟨hs, q _ F H (Wk.refl s) rfl⟩
theorem r2_eqI {i j : Int} : R2d K rEq (.int i) (.int j) (.bl (decide (i = j))) := fun F H x y s r1 r2 Q q => by
  cases r1; cases r2
  exact ⟨rfl, q _ F H (Wk.refl s) (by show V.bl _ = V.bl _; simp)⟩
theorem r2_neI {i j : Int} : R2d K rNe (.int i) (.int j) (.bl (!decide (i = j))) := fun F H x y s r1 r2 Q q => by
  cases r1; cases r2
  exact ⟨rfl, q _ F H (Wk.refl s) (by show V.bl _ = V.bl _; simp)⟩
theorem r2_eqS {i j : Str} : R2d K rEq (.str i) (.str j) (.bl (decide (i = j))) := fun F H x y s r1 r2 Q q => by
  cases r1; cases r2
  exact ⟨rfl, q _ F H (Wk.refl s) (by show V.bl _ = V.bl _; simp)⟩
theorem r2_neS {i j : Str} : R2d K rNe (.str i) (.str j) (.bl (!decide (i = j))) := fun F H x y s r1 r2 Q q => by
  cases r1; cases r2
  exact ⟨rfl, q _ F H (Wk.refl s) (by show V.bl _ = V.bl _; simp)⟩
/-- items -/
theorem r2_ixL {ds : List Dt} {i : Int} {j : Nat} (hj : ixN ds.length i = some j) (h : ds[j]? = some z) : R2d K (rIxL K) (.lst ds) (.int i) z := fun F H x y s r1 r2 Q q => by
  obtain ⟨a, vs, rfl, h1, h2⟩ := r1
  obtain ⟨v, g1, g2⟩ := h2.get h
  exact ⟨a, vs, i, v, rfl, r2, ex_l s h1, by unfold atI; rw [← h2.length, hj]; exact g1, q v F H (Wk.refl s) g2⟩
theorem r2_ixT {ds : List Dt} {i : Int} {j : Nat} (hj : ixN ds.length i = some j) (h : ds[j]? = some z) : R2d K (rIxT K) (.tup ds) (.int i) z := fun F H x y s r1 r2 Q q => by
  obtain ⟨a, vs, rfl, h1, h2⟩ := r1
  obtain ⟨v, g1, g2⟩ := h2.get h
  exact ⟨a, vs, i, v, rfl, r2, ex_t s h1, by unfold atI; rw [← h2.length, hj]; exact g1, q v F H (Wk.refl s) g2⟩
theorem ixN_at {n : Nat} {i : Int} (h0 : 0 ≤ i) (h1 : i < n) : ixN n i = some i.toNat := by
  have h := ixN_nat (n := n) (j := i.toNat) (by omega)
  rw [show ((i.toNat : Nat) : Int) = i by omega] at h
  exact h
theorem r2_ixS {w : Str} {i : Int} {c : Nat} (hl : w.length ≤ 100000) (h : atI w.cps.toList i = some c) : R2d K rIxS (.str w) (.int i) (.str ⟨#[c]⟩) := fun F H x y s r1 r2 Q q => by
  cases r1; cases r2
  exact ⟨w, i, c, rfl, rfl, sz_of hl, h, q _ F H (Wk.refl s) rfl⟩
theorem r2_addS {v w : Str} (hl : v.length + w.length ≤ 100000) : R2d K (fun x y H Q => ∃ i j, x = .str i ∧ y = .str j ∧ i.length + j.length ≤ sizeLine ∧ Q (.str (i ++ j)) H) (.str v) (.str w) (.str (v ++ w)) := fun F H x y s r1 r2 Q q => by
  cases r1; cases r2
  exact ⟨v, w, rfl, rfl, sz_of hl, q _ F H (Wk.refl s) rfl⟩
/-- a written sign in a text -/
theorem r2_inS {c : Nat} {w : Str} : R2d K rInS (.str ⟨#[c]⟩) (.str w) (.bl (decide (c ∈ w.cps.toList))) := fun F H x y s r1 r2 Q q => by
  cases r1; cases r2
  exact ⟨c, w, rfl, rfl, q _ F H (Wk.refl s) rfl⟩
theorem r2_niS {c : Nat} {w : Str} : R2d K rNotInS (.str ⟨#[c]⟩) (.str w) (.bl (!decide (c ∈ w.cps.toList))) := fun F H x y s r1 r2 Q q => by
  cases r1; cases r2
  exact ⟨c, w, rfl, rfl, q _ F H (Wk.refl s) rfl⟩
/-- in over a list or tuple of plain values -/
theorem RpL.fl {F : Hp} : ∀ {ds : List Dt} {vs : List V}, RpL K F ds vs → ds.all flatD = true → vs = ds.map Pw.fl
  | [], _, h, _ => h
  | d :: ds, vs, h, f => by
    obtain ⟨v, r, rfl, q, s⟩ := h
    rw [List.all_cons, Bool.and_eq_true] at f
    rw [q.fl f.1, RpL.fl s f.2]
    rfl
theorem r2_in {neg : Bool} {ds : List Dt} (fd : flatD d = true) (fs : ds.all flatD = true) (gd : flatV (fl d) = true) (gs : (ds.map fl).all flatV = true) :
    R2d K (rIn K neg) d (.lst ds) (.bl (if neg then !inV (fl d) (ds.map fl) else inV (fl d) (ds.map fl))) := fun F H x y s r1 r2 Q q => by
  obtain ⟨a, vs, rfl, h1, h2⟩ := r2
  rw [r1.fl fd]
  rw [h2.fl fs] at h1
  exact ⟨a, _, rfl, .inl (ex_l s h1), gd, gs, q _ F H (Wk.refl s) rfl⟩
theorem r2_inT {neg : Bool} {ds : List Dt} (fd : flatD d = true) (fs : ds.all flatD = true) (gd : flatV (fl d) = true) (gs : (ds.map fl).all flatV = true) :
    R2d K (rIn K neg) d (.tup ds) (.bl (if neg then !inV (fl d) (ds.map fl) else inV (fl d) (ds.map fl))) := fun F H x y s r1 r2 Q q => by
  obtain ⟨a, vs, rfl, h1, h2⟩ := r2
  rw [r1.fl fd]
  rw [h2.fl fs] at h1
  exact ⟨a, _, rfl, .inr (ex_t s h1), gd, gs, q _ F H (Wk.refl s) rfl⟩
/-! == of data -/
mutual
def py : Dt → Option PyData
  | .non => some .none
  | .bl b => some (.bool b)
  | .int i => some (.int i)
  | .str x => some (.str x)
  | .tup ds => (pyL ds).map .tuple
  | .lst ds => (pyL ds).map .list
  | _ => none
def pyL : List Dt → Option (List PyData)
  | [] => some []
  | d :: ds => match py d, pyL ds with
    | some p, some ps => some (p :: ps)
    | _, _ => none
end
mutual
theorem Rp.dp {F : Hp} : ∀ {d : Dt} {v : V} {p : PyData}, Rp K F d v → py d = some p → Dp K F v p
  | .non, v, p, h, e => by cases e; cases h; exact .non
  | .bl b, v, p, h, e => by cases e; cases h; exact .bl b
  | .int b, v, p, h, e => by cases e; cases h; exact .int b
  | .str b, v, p, h, e => by cases e; cases h; exact .str b
  | .tup ds, v, p, h, e => by
    obtain ⟨a, vs, rfl, h1, h2⟩ := h
    cases q : pyL ds with
    | none => simp [py, q] at e
    | some ps =>
      simp [py, q] at e
      subst e
      exact .tup h1 (RpL.dp h2 q)
  | .lst ds, v, p, h, e => by
    obtain ⟨a, vs, rfl, h1, h2⟩ := h
    cases q : pyL ds with
    | none => simp [py, q] at e
    | some ps =>
      simp [py, q] at e
      subst e
      exact .lst h1 (RpL.dp h2 q)
  | .dic _ _, _, _, _, e => by simp [py] at e
  | .dit _ _, _, _, _, e => by simp [py] at e
  | .obj _ _ _, _, _, _, e => by simp [py] at e
  | .exc _ _ _, _, _, _, e => by simp [py] at e
  | .ty _, _, _, _, e => by simp [py] at e
  | .adr _, _, _, _, e => by simp [py] at e
theorem RpL.dp {F : Hp} : ∀ {ds : List Dt} {vs : List V} {ps : List PyData}, RpL K F ds vs → pyL ds = some ps → DpAll K F vs ps
  | [], vs, ps, h, e => by
    cases e
    cases (show vs = [] from h)
    exact .nil
  | d :: ds, vs, ps, h, e => by
    obtain ⟨v, r, rfl, q, s⟩ := h
    cases e1 : py d with
    | none => simp [pyL, e1] at e
    | some p =>
      cases e2 : pyL ds with
      | none => simp [pyL, e1, e2] at e
      | some ps' =>
        simp [pyL, e1, e2] at e
        subst e
        exact .cons (Rp.dp q e1) (RpL.dp s e2)
end
mutual
theorem dp_mono {H H' : Hp} (e : Ex H H') : ∀ {p : PyData} {v : V}, Dp K H v p → Dp K H' v p
  | .none, _, h => by cases h; exact .non
  | .bool b, _, h => by cases h; exact .bl b
  | .int b, _, h => by cases h; exact .int b
  | .str b, _, h => by cases h; exact .str b
  | .list ds, _, h => by
    cases h with
    | lst h1 h2 => exact .lst (ex_l e h1) (dpAll_mono e h2)
  | .tuple ds, _, h => by
    cases h with
    | tup h1 h2 => exact .tup (ex_t e h1) (dpAll_mono e h2)
  | .dict _, _, h => by cases h
theorem dpAll_mono {H H' : Hp} (e : Ex H H') : ∀ {ps : List PyData} {vs : List V}, DpAll K H vs ps → DpAll K H' vs ps
  | [], _, h => by cases h; exact .nil
  | p :: ps, _, h => by
    cases h with
    | cons h1 h2 => exact .cons (dp_mono e h1) (dpAll_mono e h2)
end
theorem r2_eqD {p q : PyData} (hp : py d = some p) (hq : py e = some q) (sp : SeqAt.shaped p = true) (sq : SeqAt.shaped q = true) : R2d K (rEqD K) d e (.bl (PyData.eqv p q)) := fun F H x y s r1 r2 Q k =>
  ⟨p, q, dp_mono s (r1.dp hp), dp_mono s (r2.dp hq), sp, sq, k _ F H (Wk.refl s) rfl⟩
theorem r2_neD {p q : PyData} (hp : py d = some p) (hq : py e = some q) (sp : SeqAt.shaped p = true) (sq : SeqAt.shaped q = true) : R2d K (rNeD K) d e (.bl (!PyData.eqv p q)) := fun F H x y s r1 r2 Q k =>
  ⟨p, q, dp_mono s (r1.dp hp), dp_mono s (r2.dp hq), sp, sq, k _ F H (Wk.refl s) rfl⟩
end
end Pw

set_option maxHeartbeats 2000000
namespace Pw
open PySem PySem.Spec PyProof.Rows L2 Evl

/-! ### a def that is a function of data -/
def spF (K : PySem.W.Frag) (f : List Dt → Option Dt) : Sp := fun vs H Q _ => ∃ F ds d, Ex F H ∧ RpL K F ds vs ∧ f ds = some d ∧ Kq K F H d Q
section
variable {K : PySem.W.Frag} {env : En} {ta tb te tc : TE} {t u : TT} {d e z : Dt} {f : List Dt → Option Dt}
theorem ee_call {tA : TA} {ds : List Dt} {E : XK} (h : EeA K tA env ds) (hf : f ds = some d) : Ee K (tCall (spF K f) [] E tA) env d := fun F0 H0 F H σ S Q q =>
  h F0 H0 F H σ S _ fun vs F1 H1 w1 r1 => ⟨F1, ds, d, w1.s, by rw [List.append_nil]; exact r1, hf, fun v F2 H2 w2 r2 => q v F2 H2 (w1.trans w2) r2⟩
theorem spF_len {n : Nat} (hf : ∀ ds d, f ds = some d → ds.length = n) (vs : List V) (H : Hp) (Q : VK) (E : XK) (h : spF K f vs H Q E) : vs.length = n := by
  obtain ⟨F, ds, d, _, r, e, _⟩ := h
  rw [← r.length]
  exact hf ds d e

/-! ### statements -/
inductive Out where
  | nx (e : En) | ct (e : En) | nc (e : En) | bk (e : En) | rt (d : Dt)
def Po (K : PySem.W.Frag) (F0 H0 F : Hp) (D : Ends) : Out → Prop
  | .nx e => ∀ F' H' σ', Ex F F' → Sm K F0 H0 F' H' σ' e → D.nx σ' H'
  | .ct e => ∀ F' H' σ', Ex F F' → Sm K F0 H0 F' H' σ' e → D.ct σ' H'
  | .nc e => ∀ F' H' σ', Ex F F' → Sm K F0 H0 F' H' σ' e → D.nx σ' H' ∧ D.ct σ' H'
  | .bk e => ∀ F' H' σ', Ex F F' → Sm K F0 H0 F' H' σ' e → D.bk σ' H'
  | .rt d => ∀ v F' H', Wk F0 H0 F' H' → Rp K F' d v → D.rt v H'
def Se (K : PySem.W.Frag) (t : TS) (env : En) (o : Out) : Prop := ∀ F0 H0 F H σ D, Sm K F0 H0 F H σ env → Po K F0 H0 F D o → t D σ H
def Ge (K : PySem.W.Frag) (g : TG) (d : Dt) (env env' : En) : Prop := ∀ F0 H0 F H σ v, Sm K F0 H0 F H σ env → Rp K F d v → ∀ Q : L2.St → Hp → Prop, (∀ σ', Sm K F0 H0 F H σ' env' → Q σ' H) → g v σ H Q
variable {s s1 s2 : TS} {o : Out} {env1 env2 : En} {g : TG}
theorem Po.ex {F0 H0 F F' : Hp} {D : Ends} (e : Ex F F') (p : Po K F0 H0 F D o) : Po K F0 H0 F' D o := by
  cases o with
  | nx e1 => exact fun F2 H2 σ2 e2 S => p F2 H2 σ2 (e.trans e2) S
  | ct e1 => exact fun F2 H2 σ2 e2 S => p F2 H2 σ2 (e.trans e2) S
  | nc e1 => exact fun F2 H2 σ2 e2 S => p F2 H2 σ2 (e.trans e2) S
  | bk e1 => exact fun F2 H2 σ2 e2 S => p F2 H2 σ2 (e.trans e2) S
  | rt d => exact p
theorem ge_name {i : Nat} : Ge K (gName i) d env (env.set i (.d d)) := fun F0 H0 F H σ v S r Q q => q _ (S.setD r)
theorem se_asgG (h : Ee K te env d) (hg : Ge K g d env env1) : Se K (tAsg te g) env (.nx env1) := fun F0 H0 F H σ D S p =>
  h F0 H0 F H σ S _ fun v F1 H1 w r => hg F0 H0 F1 H1 σ v (S.wk w) r _ fun σ' S' => p F1 H1 σ' w.f S'
theorem se_asg {i : Nat} (h : Ee K te env d) : Se K (tAsg te (gName i)) env (.nx (env.set i (.d d))) := se_asgG h ge_name
theorem Sm.setU {F0 H0 F H : Hp} {σ : L2.St} (S : Sm K F0 H0 F H σ env) (i : Nat) : Sm K F0 H0 F H (σ.set i none) (env.set i .u) :=
  ⟨S.e0, S.g, by simp [S.len], fun j s e => by
    rcases get_set e with ⟨rfl, rfl, l⟩ | ⟨ne, e⟩
    · exact ⟨none, set_same (by rw [S.len]; exact l), rfl⟩
    · rw [set_ne ne]
      exact S.sl j s e, fun a b ds es p ne e1 e2 h => by
    rcases get_set e1 with ⟨_, z, _⟩ | ⟨n1, e1⟩
    · cases z
    · rcases get_set e2 with ⟨_, z, _⟩ | ⟨n2, e2⟩
      · cases z
      · rw [set_ne n1] at h
        rw [set_ne n2]
        exact S.df a b ds es p ne e1 e2 h⟩
/-- x = a new list that will be changed -/
theorem se_own {i : Nat} {ds : List Dt} (h : EnL K te env ds) : Se K (tAsg te (gName i)) env (.nx (env.set i (.ol ds))) := fun F0 H0 F H σ D S p =>
  h F0 H0 F H σ S _ fun a vs F1 H1 w n1 n2 h1 r => p F1 H1 _ w.f ((S.wk w).setL n2 (none_sub S.g.h n1) h1 r fun j es e z => by
    obtain ⟨v, k1, p, us, rfl, _, _, k3, _⟩ := S.sl j _ e
    rw [k1] at z
    cases z
    rw [n1] at k3
    cases k3)
theorem se_ret (h : Ee K te env d) : Se K (tRet te) env (.rt d) := fun F0 H0 F H σ D S p => h F0 H0 F H σ S _ fun v F1 H1 w r => p v F1 H1 (S.g.trans w) r
theorem se_retN : Se K tRetN env (.rt .non) := fun F0 H0 F H σ D S p => p _ F H S.g rfl
theorem se_next : Se K tNext env (.nx env) := fun F0 H0 F H σ D S p => p F H σ (Ex.refl F) S
theorem se_break : Se K tBreak env (.bk env) := fun F0 H0 F H σ D S p => p F H σ (Ex.refl F) S
theorem se_cont : Se K tCont env (.ct env) := fun F0 H0 F H σ D S p => p F H σ (Ex.refl F) S
theorem se_drop (h : Ee K te env d) : Se K (tDrop te) env (.nx env) := fun F0 H0 F H σ D S p => h F0 H0 F H σ S _ fun v F1 H1 w r => p F1 H1 σ w.f (S.wk w)
theorem se_seq (h1 : Se K s1 env (.nx env1)) (h2 : Se K s2 env1 o) : Se K (tSeq s1 s2) env o := fun F0 H0 F H σ D S p =>
  h1 F0 H0 F H σ _ S fun F1 H1 σ1 e1 S1 => h2 F0 H0 F1 H1 σ1 D S1 (p.ex e1)
theorem se_seqR (h1 : Se K s1 env (.rt d)) : Se K (tSeq s1 s2) env (.rt d) := fun F0 H0 F H σ D S p => h1 F0 H0 F H σ _ S p
theorem se_seqB (h1 : Se K s1 env (.bk env1)) : Se K (tSeq s1 s2) env (.bk env1) := fun F0 H0 F H σ D S p => h1 F0 H0 F H σ _ S p
theorem se_seqC (h1 : Se K s1 env (.ct env1)) : Se K (tSeq s1 s2) env (.ct env1) := fun F0 H0 F H σ D S p => h1 F0 H0 F H σ _ S p
theorem se_nc (h : Se K s env (.nx env1)) : Se K s env (.nc env1) := fun F0 H0 F H σ D S p => h F0 H0 F H σ D S fun F1 H1 σ1 e1 S1 => (p F1 H1 σ1 e1 S1).1
theorem se_cc (h : Se K s env (.ct env1)) : Se K s env (.nc env1) := fun F0 H0 F H σ D S p => h F0 H0 F H σ D S fun F1 H1 σ1 e1 S1 => (p F1 H1 σ1 e1 S1).2
theorem se_if {b : Bool} (h : Te K t env b) (h1 : b = true → Se K s1 env o) (h2 : b = false → Se K s2 env o) : Se K (tIfS t s1 s2) env o := fun F0 H0 F H σ D S p => h F0 H0 F H σ S _ fun F1 H1 w => by
  cases b with
  | true =>
    show s1 D σ H1
    exact h1 rfl F0 H0 F1 H1 σ D (S.wk w) (p.ex w.f)
  | false =>
    show s2 D σ H1
    exact h2 rfl F0 H0 F1 H1 σ D (S.wk w) (p.ex w.f)
/-- if t: s1 (no else), then s2 -/
theorem se_when {b : Bool} (h : Te K t env b) (h1 : b = true → Se K (tSeq s1 s2) env o) (h2 : b = false → Se K s2 env o) : Se K (tSeq (tIfS t s1 tNext) s2) env o := fun F0 H0 F H σ D S p => h F0 H0 F H σ S _ fun F1 H1 w => by
  cases b with
  | true =>
    show s1 { D with nx := s2 D } σ H1
    exact h1 rfl F0 H0 F1 H1 σ D (S.wk w) (p.ex w.f)
  | false =>
    show s2 D σ H1
    exact h2 rfl F0 H0 F1 H1 σ D (S.wk w) (p.ex w.f)
/-- if t: s1 else: s2, then s -/
theorem se_ifq {b : Bool} (h : Te K t env b) (h1 : b = true → Se K (tSeq s1 s) env o) (h2 : b = false → Se K (tSeq s2 s) env o) : Se K (tSeq (tIfS t s1 s2) s) env o := fun F0 H0 F H σ D S p => h F0 H0 F H σ S _ fun F1 H1 w => by
  cases b with
  | true =>
    show s1 { D with nx := s D } σ H1
    exact h1 rfl F0 H0 F1 H1 σ D (S.wk w) (p.ex w.f)
  | false =>
    show s2 { D with nx := s D } σ H1
    exact h2 rfl F0 H0 F1 H1 σ D (S.wk w) (p.ex w.f)
theorem se_le (h : Se K s env (.nx env1)) (l : Le env1 env2) : Se K s env (.nx env2) := fun F0 H0 F H σ D S p => h F0 H0 F H σ D S fun F1 H1 σ1 e1 S1 => p F1 H1 σ1 e1 (S1.le l)
theorem se_lec (h : Se K s env (.nc env1)) (l : Le env1 env2) : Se K s env (.nc env2) := fun F0 H0 F H σ D S p => h F0 H0 F H σ D S fun F1 H1 σ1 e1 S1 => p F1 H1 σ1 e1 (S1.le l)
theorem se_pre (l : Le env env1) (h : Se K s env1 o) : Se K s env o := fun F0 H0 F H σ D S p => h F0 H0 F H σ D (S.le l) p
theorem se_freeze {i : Nat} {ds : List Dt} (hi : env[i]? = some (.ol ds)) (h : Se K s (env.set i (.d (.lst ds))) o) : Se K s env o := fun F0 H0 F H σ D S p => by
  obtain ⟨a, vs, h1, h2, h3, h4, S'⟩ := S.freeze hi
  exact h F0 H0 _ H σ D S' (p.ex (Ex.new h2))
theorem se_is (h : Se K s env o) {o' : Out} (e : o = o') : Se K s env o' := by
  rw [← e]
  exact h
/-! own lists changed -/
theorem Sm.mutL {F0 H0 F H : Hp} {σ : L2.St} (S : Sm K F0 H0 F H σ env) {i : Nat} {ds es : List Dt} {p : Addr} {us : List V} (hi : env[i]? = some (.ol ds)) (hp : σ[i]? = some (some (.ref p))) (r : RpL K F es us) :
    Sm K F0 H0 F (L2.upd H p (.lst us)) σ (env.set i (.ol es)) := by
  obtain ⟨v, h1, q, vs, rfl, g1, g2, g3, g4⟩ := S.sl i _ hi
  rw [hp] at h1
  cases h1
  refine ⟨S.e0, ⟨S.g.f, fun a u z => ?_, fun a u z => ?_, S.g.n⟩, by simp [S.len], fun j s e => ?_, fun a b ds1 es1 q ne e1 e2 h => ?_⟩
  · rw [upd_ne (ne_of_none z g2)]
    exact S.g.h a u z
  · rw [upd_ne (ne_of_none z g1)]
    exact S.g.s a u z
  · rcases get_set e with ⟨rfl, rfl, l⟩ | ⟨ne, e⟩
    · exact ⟨_, hp, p, us, rfl, g1, g2, upd_same, r⟩
    · obtain ⟨w, k1, k2⟩ := S.sl j s e
      refine ⟨w, k1, ?_⟩
      cases s with
      | x => trivial
      | u => exact k2
      | d d => exact k2
      | ol es1 =>
        obtain ⟨q, us1, eq, f1, f2, f3, f4⟩ := k2
        have nq : q ≠ p := fun z => S.df i j ds es1 p ne hi e hp (by rw [k1, eq, z])
        exact ⟨q, us1, eq, f1, f2, by rw [upd_ne nq]; exact f3, f4⟩
  · rcases get_set e1 with ⟨ra, z1, _⟩ | ⟨n1, e1⟩
    · rcases get_set e2 with ⟨rb, z2, _⟩ | ⟨n2, e2⟩
      · exact absurd (ra.symm.trans rb) ne
      · subst ra
        exact S.df i b ds es1 q ne hi e2 h
    · rcases get_set e2 with ⟨rb, z2, _⟩ | ⟨n2, e2⟩
      · subst rb
        exact S.df a i ds1 ds q ne e1 hi h
      · exact S.df a b ds1 es1 q ne e1 e2 h
theorem se_app {i : Nat} {ds : List Dt} (hi : env[i]? = some (.ol ds)) (h : Ee K te env d) (hz : ds.length < 100000) : Se K (tDrop (tBM K "list" rAppend (tVar i) (tCons te tNil))) env (.nx (env.set i (.ol (ds ++ [d])))) := fun F0 H0 F H σ D S p => by
  obtain ⟨v, h1, a, vs, rfl, g1, g2, g3, g4⟩ := S.sl i _ hi
  refine ⟨_, h1, .inl ⟨rfl, vs, sq_of g3⟩, h F0 H0 F H σ S _ fun v F1 H1 w r => ⟨a, vs, v, rfl, rfl, w.h a _ g3, sz_lt (by rw [← g4.length]; exact hz), ?_⟩⟩
  exact p F1 _ σ w.f ((S.wk w).mutL hi h1 (RpL.append (g4.mono w.f) (RpL.cons r RpL.nil)))
theorem se_setL {i : Nat} {ds : List Dt} {k : Int} {n : Nat} (hi : env[i]? = some (.ol ds)) (h : Ee K te env d) (hk : Ee K tb env (.int k)) (hn : ixN ds.length k = some n) : Se K (tAsg te (gSub (tVar i) tb rSetL)) env (.nx (env.set i (.ol (ds.set n d)))) := fun F0 H0 F H σ D S p => by
  obtain ⟨v, h1, a, vs, rfl, g1, g2, g3, g4⟩ := S.sl i _ hi
  refine h F0 H0 F H σ S _ fun v F1 H1 w r => ⟨_, h1, hk F0 H0 F1 H1 σ (S.wk w) _ fun kv F2 H2 w2 r2 => ⟨a, vs, k, n, rfl, r2, w2.h a _ (w.h a _ g3), by rw [← g4.length]; exact hn, ?_⟩⟩
  exact p F2 _ σ (w.f.trans w2.f) (((S.wk w).wk w2).mutL hi h1 (RpL.set n (g4.mono (w.f.trans w2.f)) (r.mono w2.f)))

/-! ### a def's body -/
theorem Sm.start {F H : Hp} {ds : List Dt} {vs : List V} {N : List Str} (e : Ex F H) (r : RpL K F ds vs) : Sm K F H F H (L2.start N vs) (ds.map Sl.d ++ List.replicate (N.length - ds.length) Sl.u) := by
  have hl := r.length
  refine ⟨e, Wk.refl e, by simp [L2.start, hl], fun i s h => ?_, fun i j es fs p ne e1 e2 _ => ?_⟩
  · unfold L2.start
    by_cases hi : i < ds.length
    · rw [List.getElem?_append_left (by simpa using hi), List.getElem?_map] at h
      cases q : ds[i]? with
      | none => rw [q] at h; cases h
      | some d =>
        rw [q] at h
        cases h
        obtain ⟨v, h1, h2⟩ := r.get q
        exact ⟨some v, by rw [List.getElem?_append_left (by simp; omega), List.getElem?_map, h1]; rfl, v, rfl, h2⟩
    · rw [List.getElem?_append_right (by simpa using hi), List.length_map, List.getElem?_replicate] at h
      split at h
      · rename_i lt
        cases h
        exact ⟨none, by rw [List.getElem?_append_right (by simp; omega), List.length_map, List.getElem?_replicate, if_pos (by omega)], rfl⟩
      · cases h
  · by_cases hi : i < ds.length
    · rw [List.getElem?_append_left (by simpa using hi), List.getElem?_map] at e1
      cases q : ds[i]? <;> rw [q] at e1 <;> cases e1
    · rw [List.getElem?_append_right (by simpa using hi), List.length_map, List.getElem?_replicate] at e1
      split at e1 <;> cases e1
theorem run_rt {s : TS} {N : List Str} {vs : List V} {H : Hp} {Q : VK} {E : XK} (h : spF K f vs H Q E) (b : ∀ ds d, f ds = some d → Se K s (ds.map Sl.d ++ List.replicate (N.length - ds.length) Sl.u) (.rt d)) : s { nx := fun _ H' => Q .non H', rt := Q } (L2.start N vs) H := by
  obtain ⟨F, ds, d, e, r, hf, q⟩ := h
  exact b ds d hf F H F H _ _ (Sm.start e r) fun v F' H' w r' => q v F' H' w r'
theorem se_end {env1 : En} (h : Se K s env (.nx env1)) : ∀ F0 H0 F H σ (Q : VK), Sm K F0 H0 F H σ env → Kq K F0 H0 .non Q → s { nx := fun _ H' => Q .non H', rt := Q } σ H := fun F0 H0 F H σ Q S q => h F0 H0 F H σ _ S fun F1 H1 σ1 e1 S1 => q .non F1 H1 S1.g rfl

/-! ### walks -/
def Wl (K : PySem.W.Frag) (F1 : Hp) (J : It) (ds : List Dt) : Prop := Walk J ds.length (fun H => Ex F1 H) (fun i H x H' => ∀ F2, Ex F1 F2 → Ex F2 H → ∃ F3 d, Wk F2 H F3 H' ∧ ds[i]? = some d ∧ Rp K F3 d x)
def Ie (K : PySem.W.Frag) (wi : TI) (env : En) (ds : List Dt) : Prop := ∀ F0 H0 F H σ, Sm K F0 H0 F H σ env → ∀ R : It → Hp → Prop, (∀ J F' H', Wk F H F' H' → Wl K F' J ds → R J H') → wi σ H R
theorem wl_at {F : Hp} {ds : List Dt} {vs : List V} {J : It} {G : Hp → Prop} (r : RpL K F ds vs) (w : Walk J vs.length G (YAt vs)) (hg : ∀ H, Ex F H → G H) : Wl K F J ds := by
  unfold Wl
  rw [r.length]
  refine w.mono hg fun i H x H' hi e y F2 e2 e3 => ?_
  obtain ⟨rfl, hx⟩ := y
  obtain ⟨d, h1, h2⟩ := r.getV hx
  exact ⟨F2, d, Wk.refl e3, h1, h2.mono e2⟩
theorem ie_list {tl : TE} {ds : List Dt} (h : Ee K tl env (.lst ds)) : Ie K (iList K tl) env ds := fun F0 H0 F H σ S R k =>
  h F0 H0 F H σ S _ fun v F1 H1 w r => by
    obtain ⟨a, vs, rfl, h1, h2⟩ := r
    exact ⟨a, rfl, ⟨vs, ex_l w.s h1⟩, k _ F1 H1 w (wl_at h2 walk_list fun H e => ex_l e h1)⟩
theorem ie_tup {tl : TE} {ds : List Dt} (h : Ee K tl env (.tup ds)) : Ie K (iTup K tl) env ds := fun F0 H0 F H σ S R k =>
  h F0 H0 F H σ S _ fun v F1 H1 w r => by
    obtain ⟨a, vs, rfl, h1, h2⟩ := r
    exact ⟨a, rfl, ⟨vs, ex_t w.s h1⟩, k _ F1 H1 w (wl_at h2 walk_tup fun H e => ex_t e h1)⟩
def rangeD (lo : Int) (n : Nat) : List Dt := (List.range n).map fun (i : Nat) => Dt.int (lo + i)
theorem rangeD_len (lo : Int) (n : Nat) : (rangeD lo n).length = n := by simp [rangeD]
theorem wl_range {F : Hp} {lo : Int} {n : Nat} : Wl K F (Itr lo n) (rangeD lo n) := by
  unfold Wl
  rw [rangeD_len]
  refine walk_range.mono (fun _ _ => trivial) fun i H x H' hi e y F2 e2 e3 => ?_
  obtain ⟨rfl, rfl⟩ := y
  exact ⟨F2, .int (lo + i), Wk.refl e3, by simp [rangeD, hi], rfl⟩
theorem ie_rng1 {tA : TA} {n : Int} (h : EeA K tA env [.int n]) (hn : -100000 ≤ n ∧ n ≤ 100000) : Ie K (iRng1 tA) env (rangeD 0 n.toNat) := fun F0 H0 F H σ S R k =>
  h F0 H0 F H σ S _ fun vs F1 H1 w r => by
    obtain ⟨v, r', rfl, e1, e2⟩ := r
    cases e1; cases e2
    exact ⟨n, rfl, by omega, by omega, k _ F1 H1 w wl_range⟩
theorem ie_rng2 {tA : TA} {lo n : Int} (h : EeA K tA env [.int lo, .int n]) (hn : -100000 ≤ n ∧ n ≤ 100000 ∧ -100000 ≤ lo ∧ lo ≤ 100000) : Ie K (iRng2 tA) env (rangeD lo (n - lo).toNat) := fun F0 H0 F H σ S R k =>
  h F0 H0 F H σ S _ fun vs F1 H1 w r => by
    obtain ⟨v, r', rfl, e1, v2, r2, rfl, e2, e3⟩ := r
    cases e1; cases e2; cases e3
    exact ⟨lo, n, rfl, ⟨by omega, by omega, by omega, by omega⟩, k _ F1 H1 w wl_range⟩
def charsD (w : Str) : List Dt := w.cps.toList.map fun c => Dt.str ⟨#[c]⟩
theorem ie_str {tl : TE} {x : Str} (h : Ee K tl env (.str x)) : Ie K (iStr tl) env (charsD x) := fun F0 H0 F H σ S R k =>
  h F0 H0 F H σ S _ fun v F1 H1 w r => by
    cases r
    refine ⟨x, rfl, k _ F1 H1 w ?_⟩
    have hl : (charsD x).length = x.cps.size := by simp [charsD]
    unfold Wl
    rw [hl]
    refine walk_str.mono (fun _ _ => trivial) fun i H x' H' hi e y F2 e2 e3 => ?_
    obtain ⟨rfl, c, hc, rfl⟩ := y
    exact ⟨F2, .str ⟨#[c]⟩, Wk.refl e3, by simp [charsD, hc], rfl⟩
/-- over an own list that the loop leaves as it is: lent -/
theorem ie_own {i : Nat} {ds : List Dt} (hi : env[i]? = some (.ol ds)) : ∀ F0 H0 F H σ, Sm K F0 H0 F H σ env → True := fun _ _ _ _ _ _ => trivial

/-! ### loops -/
theorem se_for {wi : TI} {tb : TS} {ds : List Dt} (hI : Ie K wi env ds) (E : Nat → En) (m : Nat) (hm : m ≤ ds.length) (h0 : Le env (E 0))
    (hs : ∀ i d, i < m → ds[i]? = some d → ∃ e1, Ge K g d (E i) e1 ∧ Se K tb e1 (.nc (E (i + 1))))
    (hd : (m = ds.length ∧ o = .nx (E m)) ∨ ∃ d e1, ds[m]? = some d ∧ Ge K g d (E m) e1 ∧ ((∃ z, o = .rt z ∧ Se K tb e1 (.rt z)) ∨ ∃ e, o = .nx e ∧ Se K tb e1 (.bk e))) : Se K (tFor wi g tb) env o := fun F0 H0 F H σ D S p =>
  hI F0 H0 F H σ S _ fun J F1 H1 w W => by
    refine for_it W (fun i σ H => i ≤ m ∧ ∃ F, Ex F1 F ∧ Sm K F0 H0 F H σ (E i)) ⟨Nat.zero_le m, F1, Ex.refl F1, (S.wk w).le h0⟩ (fun i σ H _ h => ?_) (fun i x σ H H' hi h y => ?_) (fun σ H h => ?_)
    · obtain ⟨_, F2, e2, S2⟩ := h
      exact e2.trans S2.sub
    · obtain ⟨him, F2, e2, S2⟩ := h
      obtain ⟨F3, d, w3, hd', r3⟩ := y F2 e2 S2.sub
      by_cases hlt : i < m
      · obtain ⟨e1, hg, hb⟩ := hs i d hlt hd'
        refine hg F0 H0 F3 H' σ x (S2.wk w3) r3 _ fun σ3 S3 => ?_
        refine hb F0 H0 F3 H' σ3 _ S3 fun F4 H4 σ4 e4 S4 => ⟨⟨hlt, F4, (e2.trans w3.f).trans e4, S4⟩, ⟨hlt, F4, (e2.trans w3.f).trans e4, S4⟩⟩
      · have him' : i = m := by omega
        subst him'
        rcases hd with ⟨e, _⟩ | ⟨d', e1, h1, hg, hb⟩
        · omega
        · rw [hd'] at h1
          cases h1
          refine hg F0 H0 F3 H' σ x (S2.wk w3) r3 _ fun σ3 S3 => ?_
          rcases hb with ⟨z, rfl, hz⟩ | ⟨e, rfl, hz⟩
          · exact hz F0 H0 F3 H' σ3 _ S3 p
          · exact hz F0 H0 F3 H' σ3 _ S3 fun F4 H4 σ4 e4 S4 => p F4 H4 σ4 (((w.f.trans e2).trans w3.f).trans e4) S4
    · obtain ⟨hn, F2, e2, S2⟩ := h
      have e : m = ds.length := by omega
      rcases hd with ⟨_, rfl⟩ | ⟨d', e1, h1, _⟩
      · rw [← e] at S2
        exact p F2 H σ (w.f.trans e2) S2
      · have := (List.getElem?_eq_some_iff.mp h1).1
        omega
/-- a fold -/
theorem se_fold {α S : Type} {wi : TI} {tb : TS} {ds : List Dt} (xs : List α) (dec : α → Dt) (hds : ds = xs.map dec) (hI : Ie K wi env ds) (enc : S → En) (step : S → α → S) (P : S → List α → Prop) (s0 : S) (h0 : Le env (enc s0)) (p0 : P s0 [])
    (hs : ∀ s pre a post, xs = pre ++ a :: post → P s pre → P (step s a) (pre ++ [a]) ∧ ∃ e1, Ge K g (dec a) (enc s) e1 ∧ Se K tb e1 (.nc (enc (step s a)))) : Se K (tFor wi g tb) env (.nx (enc (xs.foldl step s0))) := by
  subst hds
  have key : ∀ i, i ≤ xs.length → P ((xs.take i).foldl step s0) (xs.take i) := by
    intro i
    induction i with
    | zero => intro _; exact p0
    | succ i ih =>
      intro hi
      have hx : xs = xs.take i ++ xs[i] :: xs.drop (i + 1) := by simp
      have e : xs.take (i + 1) = xs.take i ++ [xs[i]] := by simp
      rw [e, List.foldl_append]
      exact (hs _ (xs.take i) xs[i] (xs.drop (i + 1)) hx (ih (by omega))).1
  refine se_for hI (fun i => enc ((xs.take i).foldl step s0)) xs.length (by simp) h0 (fun i d hi hd => ?_) (.inl ⟨by simp, by simp⟩)
  rw [List.getElem?_map, List.getElem?_eq_getElem hi] at hd
  cases hd
  have hx : xs = xs.take i ++ xs[i] :: xs.drop (i + 1) := by simp
  obtain ⟨_, e1, h1, h2⟩ := hs _ (xs.take i) xs[i] (xs.drop (i + 1)) hx (key i (by omega))
  refine ⟨e1, h1, ?_⟩
  have e : xs.take (i + 1) = xs.take i ++ [xs[i]] := by simp
  rw [e, List.foldl_append]
  exact h2
theorem se_while {tb : TS} (P : En → Prop) (μ : En → Nat) (hs : ∀ e, P e → ∃ b, Te K t e b ∧ (b = true → (∃ e', P e' ∧ μ e' < μ e ∧ Se K tb e (.nc e')) ∨ (∃ z, o = .rt z ∧ Se K tb e (.rt z)) ∨ ∃ e', o = .nx e' ∧ Se K tb e (.bk e')) ∧ (b = false → o = .nx e)) (h0 : P env) : Se K (tWhile t tb) env o := fun F0 H0 F H σ D S p => by
  refine ⟨fun m σ' H' => ∃ e F', P e ∧ μ e = m ∧ Ex F F' ∧ Sm K F0 H0 F' H' σ' e, ⟨_, env, F, h0, rfl, Ex.refl F, S⟩, ?_⟩
  rintro m σ' H' ⟨e, F', hP, rfl, ex, S'⟩
  obtain ⟨b, hb, h1, h2⟩ := hs e hP
  refine hb F0 H0 F' H' σ' S' _ fun F1 H1 w => ?_
  cases b with
  | true =>
    refine ⟨fun σ2 H2 => ∃ e2 F2, P e2 ∧ μ e2 < μ e ∧ Ex F F2 ∧ Sm K F0 H0 F2 H2 σ2 e2, fun σ2 H2 ⟨e2, F2, a, b, c, d⟩ => ⟨μ e2, b, e2, F2, a, rfl, c, d⟩, ?_⟩
    rcases h1 rfl with ⟨e', p1, p2, p3⟩ | ⟨z, rfl, p3⟩ | ⟨e', rfl, p3⟩
    · exact p3 F0 H0 F1 H1 σ' _ (S'.wk w) fun F4 H4 σ4 e4 S4 => ⟨⟨e', F4, p1, p2, (ex.trans w.f).trans e4, S4⟩, ⟨e', F4, p1, p2, (ex.trans w.f).trans e4, S4⟩⟩
    · exact p3 F0 H0 F1 H1 σ' _ (S'.wk w) p
    · exact p3 F0 H0 F1 H1 σ' _ (S'.wk w) fun F4 H4 σ4 e4 S4 => p F4 H4 σ4 ((ex.trans w.f).trans e4) S4
  | false =>
    have := h2 rfl
    subst this
    exact p F1 H1 σ' (ex.trans w.f) (S'.wk w)

/-! ### comprehensions -/
theorem en_lc {wi : TI} {tt : TT} {j : Nat} {ds : List Dt} (hI : Ie K wi env ds) (hn : ds.length ≤ 40000) (p : Dt → Bool) (v : Dt → Dt) (ht : ∀ d ∈ ds, Te K tt (env.set j (.d d)) (p d)) (he : ∀ d ∈ ds, p d = true → Ee K te (env.set j (.d d)) (v d)) :
    EnL K (tLc wi (gName j) tt te [j]) env ((ds.filter p).map v) := fun F0 H0 F H σ S Q q =>
  hI F0 H0 F H σ S _ fun J F1 H1 w W D hD => by
    have nF : F1 D = none := none_sub w.s hD
    have n0 : H0 D = none := none_sub (S.wk w).g.h hD
    have nO : ∀ (i : Nat) (es : List Dt), env[i]? = some (.ol es) → σ[i]? ≠ some (some (.ref D)) := fun i es e z => by
      obtain ⟨v, k1, p, us, rfl, _, _, k3, _⟩ := (S.wk w).sl i _ e
      rw [k1] at z
      cases z
      rw [hD] at k3
      cases k3
    refine lc_it W (fun i H2 => ∃ F2 acc, Ex F1 F2 ∧ F2 D = none ∧ H2 D = some (.lst acc) ∧ RpL K F2 (((ds.take i).filter p).map v) acc ∧ Sm K F0 H0 F2 H2 σ env ∧ Ex H1 H2 ∧ (∀ a o, H1 a = some o → F1 a = none → F2 a = none))
      ⟨F1, [], Ex.refl F1, nF, upd_same, rfl, (S.wk w).upd _ nF n0 nO, Ex.new hD, fun _ _ _ n => n⟩ (fun i H2 _ h => ?_) (fun i x H2 H2' hi h y => ?_) (fun H2 h => ?_)
    · obtain ⟨F2, acc, e2, _, _, _, S2, _⟩ := h
      exact e2.trans S2.sub
    · obtain ⟨F2, acc, e2, d2, h2, r2, S2, x2, n2⟩ := h
      obtain ⟨F3, d, w3, hd, r3⟩ := y F2 e2 S2.sub
      have hmem : d ∈ ds := List.mem_of_getElem? hd
      have hset : (env.set j .u).set j (.d d) = env.set j (.d d) := by rw [List.set_set]
      have S3 : Sm K F0 H0 F3 H2' ((σ.set j none).set j (some x)) (env.set j (.d d)) := by
        rw [← hset]
        exact ((S2.wk w3).setU j).setD r3
      have etake : ds.take (i + 1) = ds.take i ++ [d] := by
        rw [List.take_add_one, hd]
        rfl
      refine ⟨by simp [wipe, List.set_set], ?_⟩
      show tt ((σ.set j none).set j (some x)) H2' _
      refine ht d hmem F0 H0 F3 H2' _ S3 _ fun F4 H4 w4 => ?_
      have hD4 : H4 D = some (.lst acc) := w4.h D _ (w3.h D _ h2)
      cases hp : p d with
      | true =>
        show te ((σ.set j none).set j (some x)) H4 _
        refine he d hmem hp F0 H0 F4 H4 _ (S3.wk w4) _ fun vv F5 H5 w5 r5 => ?_
        have hD5 : H5 D = some (.lst acc) := w5.h D _ hD4
        have w35 : Wk F2 H2 F5 H5 := (w3.trans w4).trans w5
        have dF5 : F5 D = none := w35.n D _ h2 d2
        have hlen : acc.length < sizeLine := by
          rw [← r2.length, List.length_map]
          have h1 := List.length_filter_le p (ds.take i)
          have h2 : (ds.take i).length ≤ i := by simp; omega
          exact sz_lt (by omega)
        refine ⟨acc, hD5, hlen, F5, acc ++ [vv], e2.trans w35.f, dF5, upd_same, ?_, (S2.wk w35).upd _ dF5 n0 nO, fun a o h => ?_, fun a o h h' => w35.n a o (x2 a o h) (n2 a o h h')⟩
        · rw [etake, List.filter_append, List.map_append]
          refine RpL.append (r2.mono w35.f) ?_
          rw [List.filter_cons, if_pos hp]
          exact RpL.cons r5 RpL.nil
        · rw [upd_ne (ne_of_none h hD)]
          exact w35.h a o (x2 a o h)
      | false =>
        have w34 : Wk F2 H2 F4 H4 := w3.trans w4
        refine ⟨F4, acc, e2.trans w34.f, w34.n D _ h2 d2, hD4, ?_, S2.wk w34, x2.trans w34.h, fun a o h h' => w34.n a o (x2 a o h) (n2 a o h h')⟩
        rw [etake, List.filter_append, List.map_append, List.filter_cons, if_neg (by simp [hp])]
        show RpL K F4 (((ds.take i).filter p).map v ++ []) acc
        rw [List.append_nil]
        exact r2.mono w34.f
    · obtain ⟨F2, acc, e2, d2, h2, r2, S2, x2, n2⟩ := h
      rw [List.take_length] at r2
      exact q D acc F2 H2 (w.trans ⟨e2, x2, S2.sub, n2⟩) (fresh_back w.h hD) d2 h2 r2
theorem te_yes : Te K tYes env true := fun F0 H0 F H σ S Q q => q F H (Wk.refl S.sub)
theorem en_map {wi : TI} {j : Nat} {ds : List Dt} (hI : Ie K wi env ds) (hn : ds.length ≤ 40000) (v : Dt → Dt) (he : ∀ d ∈ ds, Ee K te (env.set j (.d d)) (v d)) : EnL K (tLc wi (gName j) tYes te [j]) env (ds.map v) := by
  have h := en_lc (K := K) (te := te) (j := j) hI hn (fun _ => true) v (fun d _ => te_yes) fun d hd _ => he d hd
  have e : ds.filter (fun _ => true) = ds := by simp
  rw [e] at h
  exact h
end
end Pw

set_option maxHeartbeats 2000000
namespace Pw
open PySem PySem.Spec PyProof.Rows L2 Evl

/-! ### defs of the text, called by name -/
/-- the def x of the text stands behind the top as st tells it -/
def Df (K : PySem.W.Frag) (mg : Str → Option Value) (x : Str) (ps : List Str) (st : Stmt) : Prop :=
  ∃ f fd, mg x = some (.ref f) ∧ FunD K x x (defArgs st) (defBody st) (defScope st) [] [] f fd ∧ Binds K fd ps []
/-- x is called by name and keeps sp -/
def Fn (P : Program) (w : World) (K : PySem.W.Frag) (mg : Str → Option Value) (base : Heap) (k : Nat) (x : Str) (ps : List Str) (sp : Sp) : Prop :=
  ∃ f fd, mg x = some (.ref f) ∧ PySem.W.keepIn K (.ref f) = true ∧ Binds K fd ps [] ∧ FnOk P w K mg base CX0 k f fd ps sp
section
variable {P : Program} {w : World} {K : PySem.W.Frag} {mg : Str → Option Value} {base : Heap}
theorem Fn.mono {j k : Nat} {x : Str} {ps : List Str} {sp : Sp} (F : Fn P w K mg base j x ps sp) (h : j ≤ k) : Fn P w K mg base k x ps sp := by
  obtain ⟨f, fd, h1, h2, h3, h4⟩ := F
  exact ⟨f, fd, h1, h2, h3, h4.mono h⟩
theorem Fn.imp {k : Nat} {x : Str} {ps : List Str} {sp sp' : Sp} (F : Fn P w K mg base k x ps sp) (h : ∀ vs H Q E, sp' vs H Q E → sp vs H Q E) : Fn P w K mg base k x ps sp' := by
  obtain ⟨f, fd, h1, h2, h3, h4⟩ := F
  exact ⟨f, fd, h1, h2, h3, h4.imp h⟩
/-- THE RULE for a def that is a function of data -/
theorem Fn.of {x : Str} {ps N : List Str} {st : Stmt} {k : Nat} {m : List Dt → Option Dt} (D : Df K mg x ps st) (S : FnScope N ps (defScope st)) (hl : ∀ ds d, m ds = some d → ds.length = ps.length)
    (hb : ∀ (f : Addr) (cdv : Value) (A : Around) (outer : List Env) (s : Shared) (H : Hp) (E : XK), Room k (A.deeper (envOfC x (defScope st) s.heap.objs.size f cdv)) →
      ∃ t, PSs (cxOf CX0 P w K mg base N x (defScope st) f cdv A outer s H E).nox (defBody st) t ∧ ∀ ds d, m ds = some d → Se K t (ds.map Sl.d ++ List.replicate (N.length - ds.length) Sl.u) (.rt d)) :
    Fn P w K mg base (k + 1) x ps (spF K m) := by
  obtain ⟨f, fd, h1, F, h3⟩ := D
  refine ⟨f, fd, h1, F.kp, h3, F.ok S (fun vs H Q E h => spF_len hl vs H Q E h) fun cdv A outer s H vs Q E hr h => ?_⟩
  obtain ⟨t, ht, hs⟩ := hb f cdv A outer s H E hr
  exact ⟨t, PSs.nox ht, run_rt h hs⟩
/-- .. for any promise -/
theorem Fn.ofSp {x : Str} {ps N : List Str} {st : Stmt} {k : Nat} {sp : Sp} (D : Df K mg x ps st) (S : FnScope N ps (defScope st)) (hl : ∀ vs H Q E, sp vs H Q E → vs.length = ps.length)
    (hb : ∀ (f : Addr) (cdv : Value) (A : Around) (outer : List Env) (s : Shared) (H : Hp) (E : XK), Room k (A.deeper (envOfC x (defScope st) s.heap.objs.size f cdv)) →
      ∃ t, PSs (cxOf CX0 P w K mg base N x (defScope st) f cdv A outer s H E).nox (defBody st) t ∧ ∀ vs Q, sp vs H Q E → t { nx := fun _ H' => Q .non H', rt := Q } (L2.start N vs) H) :
    Fn P w K mg base (k + 1) x ps sp := by
  obtain ⟨f, fd, h1, F, h3⟩ := D
  refine ⟨f, fd, h1, F.kp, h3, F.ok S hl fun cdv A outer s H vs Q E hr h => ?_⟩
  obtain ⟨t, ht, hs⟩ := hb f cdv A outer s H E hr
  exact ⟨t, PSs.nox ht, hs vs Q h⟩
end
section
variable {X : Cx}
theorem pe_fn {x : Str} {ps : List Str} {sp : Sp} {k : Nat} {e : Expr} {es : List Expr} {t : TA} {p pos : Pos} (F : Fn X.prog X.w X.K X.mg X.base k x ps sp) (hr : Room k X.A) (ha : PA X (e :: es) t) (hg : Gl X x := by rfl)
    (hdb : (x == ("__debug__" : Str)) = false := by decide) (he : starEach (e :: es) X.env = (false, eval e X.env) :: starEach es X.env := by rfl) (hpl : (backTo pos (starEach es X.env)).any (·.1) = false := by rfl) :
    PE X (.Call (.Name x p) (e :: es) [] pos) (tCall sp [] E0 t) := by
  obtain ⟨f, fd, h1, h2, h3, h4⟩ := F
  exact pe_call h4 hr hg h1 h2 h3 .nil pass0 ha hdb he hpl
theorem pe_fn0 {x : Str} {ps : List Str} {sp : Sp} {k : Nat} {p pos : Pos} (F : Fn X.prog X.w X.K X.mg X.base k x ps sp) (hr : Room k X.A) (hg : Gl X x := by rfl)
    (hdb : (x == ("__debug__" : Str)) = false := by decide) : PE X (.Call (.Name x p) [] [] pos) (tCall sp [] E0 tNil) := by
  obtain ⟨f, fd, h1, h2, h3, h4⟩ := F
  exact pe_call0 h4 hr hg h1 h2 h3 .nil pass0 hdb
/-- a builtin, a built-in type, called; given that the module does not name it -/
theorem pset {i : Nat} {x : Str} {e : Expr} {te : TE} {pos pos' : Pos} (hN : X.N.Nodup) (he : PE X e te) (hi : X.N[i]? = some x := by rfl) (hx : Loc X.env.scope x := by first | exact Or.inl rfl | exact Or.inr rfl) (hs : swapsWith e (some (.Name x pos')) pos.line X.env = pure false := by rfl)
    (hf : X.fn x = true ∨ X.env.scope.names.lookup x = some .local := by first | exact .inl rfl | exact .inr rfl | assumption) : PS X (.Assign [.Name x pos'] e pos) (tAsg te (gName i)) := ps_set hN hi hx he hs hf
theorem pgn {i : Nat} {x : Str} {pos : Pos} (hN : X.N.Nodup) (hi : X.N[i]? = some x := by rfl) (hx : Loc X.env.scope x := by first | exact Or.inl rfl | exact Or.inr rfl)
    (hf : X.fn x = true ∨ X.env.scope.names.lookup x = some .local := by first | exact .inl rfl | exact .inr rfl | assumption) : PG X (.Name x pos) (gName i) := pg_name hN hi hx hf
/-- isinstance(x, T) for a built-in T -/
theorem pe_tyname {x : Str} {n : String} {pos : Pos} (hm : X.mg x = none) (hg : Gl X x := by rfl) (hv : bootBuiltins x = some (.type n) := by decide +kernel) (hn : x ≠ "__name__" := by decide) (hdb : (x == ("__debug__" : Str)) = false := by decide) : PE X (.Name x pos) (tC (.ty n)) := pe_bltn hg hm hv rfl hn hdb
end
/-! ### what built-ins give -/
section
variable {K : PySem.W.Frag} {d e z : Dt} {ds : List Dt}
/-- the type's name of data -/
def tyD : Dt → Option String
  | .non => some "NoneType"
  | .bl _ => some "bool"
  | .int _ => some "int"
  | .str _ => some "str"
  | .tup _ => some "tuple"
  | .lst _ => some "list"
  | .dic _ _ => some "dict"
  | .dit _ _ => some "dict"
  | _ => none
theorem tyX_l {H : Hp} {a : Addr} {xs : List V} (h : SqL K H a xs) : TyX K H (.ref a) (.type "list") := by
  rcases h with (h | ⟨o, h⟩) | ⟨o, its, n, h1, h2, _⟩
  · exact .base (.lst h)
  · exact .base (.frz h)
  · exact .kList h1 h2
theorem tyX_t {H : Hp} {a : Addr} {xs : List V} (h : SqT K H a xs) : TyX K H (.ref a) (.type "tuple") := by
  rcases h with (h | ⟨o, h⟩) | ⟨o, its, n, h1, h2, _⟩
  · exact .base (.tup h)
  · exact .fTuple h
  · exact .kTuple h1 h2
theorem tyX_of {F H : Hp} {v : V} {n : String} (s : Ex F H) (r : Rp K F d v) (h : tyD d = some n) : TyX K H v (.type n) := by
  cases d <;> simp only [tyD, Option.some.injEq, reduceCtorEq] at h <;> subst h
  · cases r; exact .base .non
  · cases r; exact .base (.bl _)
  · cases r; exact .base (.int _)
  · cases r; exact .base (.str _)
  · obtain ⟨a, vs, rfl, h1, _⟩ := r
    exact tyX_t (ex_t s h1)
  · obtain ⟨a, vs, rfl, h1, _⟩ := r
    exact tyX_l (ex_l s h1)
  · obtain ⟨a, vs, rfl, h1, _⟩ := r
    exact .base (.dK (s _ _ h1))
  · obtain ⟨a, vs, rfl, h1, _⟩ := r
    exact .base (.dT (s _ _ h1))
theorem rl_isi {n t : String} {b : Bool} (h : tyD d = some n) (hb : kitB n t = some b) : RLd K (rIsi K) [d, .ty t] (.bl b) := fun F H vs s r Q q => by
  obtain ⟨v, r1, rfl, e1, v2, r2, rfl, e2, e3⟩ := r
  cases e2; cases e3
  exact ⟨v, .ty t, .type n, .type t, b, rfl, .ty t, tyX_of s e1 h, kit_ty hb, q _ F H (Wk.refl s) rfl⟩
theorem rl_lenS {w : Str} (h : w.length ≤ 100000) : RLd K (fun xs H Q => ∃ z, xs = [.str z] ∧ z.length ≤ sizeLine ∧ Q (.int z.length) H) [.str w] (.int w.length) := fun F H vs s r Q q => by
  obtain ⟨v, r1, rfl, e1, e2⟩ := r
  cases e1; cases e2
  exact ⟨w, rfl, sz_of h, q _ F H (Wk.refl s) rfl⟩
theorem rl_len : RLd K (rLenS K) [.lst ds] (.int ds.length) := fun F H vs s r Q q => by
  obtain ⟨v, r1, rfl, ⟨a, us, rfl, h1, h2⟩, e2⟩ := r
  cases e2
  refine ⟨a, us, rfl, .inl (ex_l s h1), ?_⟩
  rw [← h2.length]
  exact q _ F H (Wk.refl s) rfl
theorem rl_lenT : RLd K (rLenS K) [.tup ds] (.int ds.length) := fun F H vs s r Q q => by
  obtain ⟨v, r1, rfl, ⟨a, us, rfl, h1, h2⟩, e2⟩ := r
  cases e2
  refine ⟨a, us, rfl, .inr (ex_t s h1), ?_⟩
  rw [← h2.length]
  exact q _ F H (Wk.refl s) rfl
theorem rn_list : RLn K (rListS K) [.lst ds] ds := fun F H vs s r Q q => by
  obtain ⟨v, r1, rfl, ⟨a, us, rfl, h1, h2⟩, e2⟩ := r
  cases e2
  exact ⟨a, us, rfl, .inl (ex_l s h1), fun l hl => q l us F _ (Wk.own s _ hl) hl (none_sub s hl) upd_same h2⟩
theorem rn_listT : RLn K (rListS K) [.tup ds] ds := fun F H vs s r Q q => by
  obtain ⟨v, r1, rfl, ⟨a, us, rfl, h1, h2⟩, e2⟩ := r
  cases e2
  exact ⟨a, us, rfl, .inr (ex_t s h1), fun l hl => q l us F _ (Wk.own s _ hl) hl (none_sub s hl) upd_same h2⟩
def rTupS (K : PySem.W.Frag) : List V → Hp → VK → Prop := fun xs H Q => ∃ p ys, xs = [.ref p] ∧ ((SqL K H p ys ∧ ∀ l, H l = none → Q (.ref l) (upd H l (.tup ys))) ∨ (SqT K H p ys ∧ Q (.ref p) H))
theorem rl_tup : RLd K (rTupS K) [.lst ds] (.tup ds) := fun F H vs s r Q q => by
  obtain ⟨v, r1, rfl, ⟨a, us, rfl, h1, h2⟩, e2⟩ := r
  cases e2
  exact ⟨a, us, rfl, .inl ⟨ex_l s h1, fun l hl => q _ (upd F l (.tup us)) _ (Wk.new s _ hl) ⟨l, us, rfl, SqT.of upd_same, h2.mono (Ex.new (none_sub s hl))⟩⟩⟩
theorem rl_tupT : RLd K (rTupS K) [.tup ds] (.tup ds) := fun F H vs s r Q q => by
  obtain ⟨v, r1, rfl, ⟨a, us, rfl, h1, h2⟩, e2⟩ := r
  cases e2
  exact ⟨a, us, rfl, .inr ⟨ex_t s h1, q _ F H (Wk.refl s) ⟨a, us, rfl, h1, h2⟩⟩⟩
def rInt1 : List V → Hp → VK → Prop := fun xs H Q => (∃ i, xs = [.int i] ∧ Q (.int i) H) ∨ ∃ k, xs = [.bl k] ∧ Q (.int (if k then 1 else 0)) H
theorem rl_int {i : Int} : RLd K rInt1 [.int i] (.int i) := fun F H vs s r Q q => by
  obtain ⟨v, r1, rfl, e1, e2⟩ := r
  cases e1; cases e2
  exact .inl ⟨i, rfl, q _ F H (Wk.refl s) rfl⟩
def rMin2 : List V → Hp → VK → Prop := fun xs H Q => ∃ i j, xs = [.int i, .int j] ∧ Q (.int (if j < i then j else i)) H
theorem rl_max2 {i j : Int} : RLd K rMax2 [.int i, .int j] (.int (if j > i then j else i)) := fun F H vs s r Q q => by
  obtain ⟨v, r1, rfl, e1, v2, r2, rfl, e2, e3⟩ := r
  cases e1; cases e2; cases e3
  exact ⟨i, j, rfl, q _ F H (Wk.refl s) rfl⟩
theorem rl_min2 {i j : Int} : RLd K rMin2 [.int i, .int j] (.int (if j < i then j else i)) := fun F H vs s r Q q => by
  obtain ⟨v, r1, rfl, e1, v2, r2, rfl, e2, e3⟩ := r
  cases e1; cases e2; cases e3
  exact ⟨i, j, rfl, q _ F H (Wk.refl s) rfl⟩
theorem rl_all {bs : List Bool} : RLd K (rAll K) [.lst (bs.map .bl)] (.bl (bs.all id)) := fun F H vs s r Q q => by
  obtain ⟨v, r1, rfl, ⟨a, us, rfl, h1, h2⟩, e2⟩ := r
  cases e2
  cases h2.bls
  exact ⟨a, bs, rfl, ex_l s h1, q _ F H (Wk.refl s) rfl⟩
theorem rl_any {bs : List Bool} : RLd K (rAny K) [.lst (bs.map .bl)] (.bl (bs.any id)) := fun F H vs s r Q q => by
  obtain ⟨v, r1, rfl, ⟨a, us, rfl, h1, h2⟩, e2⟩ := r
  cases e2
  cases h2.bls
  exact ⟨a, bs, rfl, ex_l s h1, q _ F H (Wk.refl s) rfl⟩
end
section
variable {X : Cx}
theorem cr_int : CallR X (.type "int") rInt1 := call_int1
theorem cr_min2 (hc : X.calm = true) : CallR X (.builtin "min") rMin2 := call_min2 hc
theorem cr_max2 (hc : X.calm = true) : CallR X (.builtin "max") rMax2 := call_max2 hc
theorem cr_list : CallR X (.type "list") (rListS X.K) := call_list_of
theorem cr_tuple : CallR X (.type "tuple") (rTupS X.K) := call_tuple_of
theorem cr_len : CallR X (.builtin "len") (rLenS X.K) := call_len_seq
end
end Pw
namespace Pw
open PySem PySem.Spec PyProof.Rows L2 Evl
section
variable {X : Cx}
theorem pe_globI {x : Str} {i : Int} {pos : Pos} (h : ∃ t, X.mg x = some (.int i t)) (hg : Gl X x := by rfl) (hd : (x == ("__debug__" : Str)) = false := by decide) : PE X (.Name x pos) (tC (.int i)) := by
  obtain ⟨t, h⟩ := h
  exact pe_glob hg h ⟨t, rfl⟩ hd
theorem pe_globS {x : Str} {i : Str} {pos : Pos} (h : ∃ t, X.mg x = some (.str i t)) (hg : Gl X x := by rfl) (hd : (x == ("__debug__" : Str)) = false := by decide) : PE X (.Name x pos) (tC (.str i)) := by
  obtain ⟨t, h⟩ := h
  exact pe_glob hg h ⟨t, rfl⟩ hd
end
section
variable {K : PySem.W.Frag} {env : En} {te : TE} {tl th : TO} {d : Dt} {ds : List Dt}
theorem oo_none : Oo K tNoPart env none := fun F0 H0 F H σ S Q q => q F H (Wk.refl S.sub)
theorem oo_some {i : Int} (h : Ee K te env (.int i)) : Oo K (tPart te) env (some i) := fun F0 H0 F H σ S Q q => h F0 H0 F H σ S _ fun v F1 H1 w r => ⟨i, r, q F1 H1 w⟩
theorem ee_slS {x : Str} {lo hi : Option Int} (h : Ee K te env (.str x)) (h1 : Oo K tl env lo) (h2 : Oo K th env hi) (hl : x.length ≤ 100000) : Ee K (tSl rSlS te tl th) env (.str (cutS x lo hi)) := fun F0 H0 F H σ S Q q =>
  h F0 H0 F H σ S _ fun v F1 H1 w r => h1 F0 H0 F1 H1 σ (S.wk w) _ fun F2 H2 w2 => h2 F0 H0 F2 H2 σ ((S.wk w).wk w2) _ fun F3 H3 w3 => ⟨x, r, sz_of hl, q _ F3 H3 ((w.trans w2).trans w3) rfl⟩
theorem en_slL {xs : List Dt} {lo hi : Option Int} (h : Ee K te env (.lst xs)) (h1 : Oo K tl env lo) (h2 : Oo K th env hi) : EnL K (tSl (rSlL K) te tl th) env ((xs.drop (HT.sIx xs.length 0 lo)).take (HT.sIx xs.length xs.length hi - HT.sIx xs.length 0 lo)) := fun F0 H0 F H σ S Q q =>
  h F0 H0 F H σ S _ fun v F1 H1 w r => h1 F0 H0 F1 H1 σ (S.wk w) _ fun F2 H2 w2 => h2 F0 H0 F2 H2 σ ((S.wk w).wk w2) _ fun F3 H3 w3 => by
    obtain ⟨a, vs, rfl, g1, g2⟩ := r
    refine ⟨a, vs, rfl, ex_l (w.s.trans (w2.h.trans w3.h)) g1, fun p hp => q p _ F3 _ (((w.trans w2).trans w3).trans (Wk.own w3.s _ hp)) (fresh_back ((w.trans w2).trans w3).h hp) (none_sub w3.s hp) upd_same ?_⟩
    unfold cutV
    rw [← g2.length]
    exact RpL.take _ (RpL.drop _ (g2.mono (w2.f.trans w3.f)))
end
end Pw
namespace Pw
open PySem PySem.Spec PyProof.Rows L2 Evl
def isI : Dt → Bool
  | .int _ => true
  | _ => false
def isB : Dt → Bool
  | .bl _ => true
  | _ => false
def isS : Dt → Bool
  | .str _ => true
  | _ => false
def isTp : Dt → Bool
  | .tup _ => true
  | _ => false
def isL : Dt → Bool
  | .lst _ => true
  | _ => false
section
variable {K : PySem.W.Frag} {d : Dt}
theorem rl_isInt (h : (tyD d).isSome = true) : RLd K (rIsi K) [d, .ty "int"] (.bl (isI d || isB d)) := by
  cases d
  · exact rl_isi rfl (show kitB "NoneType" "int" = some false by decide +kernel)
  · exact rl_isi rfl (show kitB "bool" "int" = some true by decide +kernel)
  · exact rl_isi rfl (show kitB "int" "int" = some true by decide +kernel)
  · exact rl_isi rfl (show kitB "str" "int" = some false by decide +kernel)
  · exact rl_isi rfl (show kitB "tuple" "int" = some false by decide +kernel)
  · exact rl_isi rfl (show kitB "list" "int" = some false by decide +kernel)
  · exact rl_isi rfl (show kitB "dict" "int" = some false by decide +kernel)
  · exact rl_isi rfl (show kitB "dict" "int" = some false by decide +kernel)
  all_goals cases h
theorem rl_isBool (h : (tyD d).isSome = true) : RLd K (rIsi K) [d, .ty "bool"] (.bl (isB d)) := by
  cases d
  · exact rl_isi rfl (show kitB "NoneType" "bool" = some false by decide +kernel)
  · exact rl_isi rfl (show kitB "bool" "bool" = some true by decide +kernel)
  · exact rl_isi rfl (show kitB "int" "bool" = some false by decide +kernel)
  · exact rl_isi rfl (show kitB "str" "bool" = some false by decide +kernel)
  · exact rl_isi rfl (show kitB "tuple" "bool" = some false by decide +kernel)
  · exact rl_isi rfl (show kitB "list" "bool" = some false by decide +kernel)
  · exact rl_isi rfl (show kitB "dict" "bool" = some false by decide +kernel)
  · exact rl_isi rfl (show kitB "dict" "bool" = some false by decide +kernel)
  all_goals cases h
theorem rl_isStr (h : (tyD d).isSome = true) : RLd K (rIsi K) [d, .ty "str"] (.bl (isS d)) := by
  cases d
  · exact rl_isi rfl (show kitB "NoneType" "str" = some false by decide +kernel)
  · exact rl_isi rfl (show kitB "bool" "str" = some false by decide +kernel)
  · exact rl_isi rfl (show kitB "int" "str" = some false by decide +kernel)
  · exact rl_isi rfl (show kitB "str" "str" = some true by decide +kernel)
  · exact rl_isi rfl (show kitB "tuple" "str" = some false by decide +kernel)
  · exact rl_isi rfl (show kitB "list" "str" = some false by decide +kernel)
  · exact rl_isi rfl (show kitB "dict" "str" = some false by decide +kernel)
  · exact rl_isi rfl (show kitB "dict" "str" = some false by decide +kernel)
  all_goals cases h
theorem rl_isTup (h : (tyD d).isSome = true) : RLd K (rIsi K) [d, .ty "tuple"] (.bl (isTp d)) := by
  cases d
  · exact rl_isi rfl (show kitB "NoneType" "tuple" = some false by decide +kernel)
  · exact rl_isi rfl (show kitB "bool" "tuple" = some false by decide +kernel)
  · exact rl_isi rfl (show kitB "int" "tuple" = some false by decide +kernel)
  · exact rl_isi rfl (show kitB "str" "tuple" = some false by decide +kernel)
  · exact rl_isi rfl (show kitB "tuple" "tuple" = some true by decide +kernel)
  · exact rl_isi rfl (show kitB "list" "tuple" = some false by decide +kernel)
  · exact rl_isi rfl (show kitB "dict" "tuple" = some false by decide +kernel)
  · exact rl_isi rfl (show kitB "dict" "tuple" = some false by decide +kernel)
  all_goals cases h
theorem rl_isList (h : (tyD d).isSome = true) : RLd K (rIsi K) [d, .ty "list"] (.bl (isL d)) := by
  cases d
  · exact rl_isi rfl (show kitB "NoneType" "list" = some false by decide +kernel)
  · exact rl_isi rfl (show kitB "bool" "list" = some false by decide +kernel)
  · exact rl_isi rfl (show kitB "int" "list" = some false by decide +kernel)
  · exact rl_isi rfl (show kitB "str" "list" = some false by decide +kernel)
  · exact rl_isi rfl (show kitB "tuple" "list" = some false by decide +kernel)
  · exact rl_isi rfl (show kitB "list" "list" = some true by decide +kernel)
  · exact rl_isi rfl (show kitB "dict" "list" = some false by decide +kernel)
  · exact rl_isi rfl (show kitB "dict" "list" = some false by decide +kernel)
  all_goals cases h
end
end Pw
namespace Pw
open PySem PySem.Spec PyProof.Rows L2 Evl
section
variable {K : PySem.W.Frag} {env E : En} {g : TG} {tb : TS} {wi : TI} {ds : List Dt}
theorem find_split {α : Type} {p : α → Bool} : ∀ {l : List α} {d : α}, l.find? p = some d → ∃ i : Nat, l[i]? = some d ∧ p d = true ∧ ∀ (j : Nat) x, j < i → l[j]? = some x → p x = false
  | a :: l, d, h => by
    rw [List.find?_cons] at h
    cases q : p a with
    | true =>
      rw [q] at h
      cases h
      exact ⟨0, rfl, q, fun j x hj _ => by omega⟩
    | false =>
      rw [q] at h
      obtain ⟨i, h1, h2, h3⟩ := find_split h
      refine ⟨i + 1, by simpa using h1, h2, fun j x hj hx => ?_⟩
      cases j with
      | zero =>
        simp at hx
        rw [← hx]
        exact q
      | succ j => exact h3 j x (by omega) (by simpa using hx)
/-- a loop that searches: at the first d with p d it returns z d -/
theorem se_find (p : Dt → Bool) (z : Dt → Dt) (hI : Ie K wi env ds) (E : En) (h0 : Le env E) (hs : ∀ d ∈ ds, ∃ e1, Ge K g d E e1 ∧ (p d = true → Se K tb e1 (.rt (z d))) ∧ (p d = false → Se K tb e1 (.nc E))) :
    Se K (tFor wi g tb) env (match ds.find? p with | some d => .rt (z d) | none => .nx E) := by
  cases h : ds.find? p with
  | none =>
    have hn : ∀ d ∈ ds, p d = false := fun d hd => by
      have := List.find?_eq_none.mp h d hd
      simpa using this
    refine se_for hI (fun _ => E) ds.length (Nat.le_refl _) h0 (fun i d hi hd => ?_) (.inl ⟨rfl, rfl⟩)
    have hm := List.mem_of_getElem? hd
    obtain ⟨e1, h1, _, h3⟩ := hs d hm
    exact ⟨e1, h1, h3 (hn d hm)⟩
  | some d =>
    obtain ⟨i, h1, h2, h3⟩ := find_split h
    have hi : i < ds.length := (List.getElem?_eq_some_iff.mp h1).1
    refine se_for hI (fun _ => E) i (Nat.le_of_lt hi) h0 (fun j x hj hx => ?_) (.inr ?_)
    · obtain ⟨e1, g1, _, g3⟩ := hs x (List.mem_of_getElem? hx)
      exact ⟨e1, g1, g3 (h3 j x hj hx)⟩
    · obtain ⟨e1, g1, g2, _⟩ := hs d (List.mem_of_getElem? h1)
      exact ⟨d, e1, h1, g1, .inl ⟨z d, rfl, g2 h2⟩⟩
theorem itemD {α : Type} {l : List α} {i : Nat} (d : α) (h : i < l.length) : l[i]? = some (l.getD i d) := by
  rw [List.getD_eq_getElem?_getD, List.getElem?_eq_getElem h]
  rfl
/-- an item of a list at a remainder -/
theorem r2_ixM {i : Int} {n : Int} (h0 : 0 < n) (hn : n ≤ (ds.length : Int)) : R2d K (rIxL K) (.lst ds) (.int (i % n)) (ds.getD (i % n).toNat .non) := by
  have h1 := Int.emod_nonneg i (show n ≠ 0 by omega)
  have h2 := Int.emod_lt_of_pos i h0
  exact r2_ixL (ixN_at h1 (by omega)) (itemD _ (by omega))
end
end Pw

set_option maxHeartbeats 1000000
namespace Pw
open PySem PySem.Spec PyProof.Rows L2 Evl
/-! ### exceptions of own classes, held as values -/
/-- what the written part says of such a class -/
structure ExV (K : PySem.W.Frag) (C : Addr) : Prop where
  cl : (PySem.W.clsIn K C).isSome = true
  ga : PySem.W.findIn K (.ref C) "__getattribute__" = some (some (.builtin "BaseException.__getattribute__"))
  gt : PySem.W.findIn K (.ref C) "__getattr__" = some none
  sb : PySem.W.subIn K (.ref C) (.type "BaseException") = some true
  ca : PySem.W.findIn K (.ref C) "__class__" = some (some (.builtin "object.__class__"))
  cg : PySem.W.specialIn K (.builtin "object.__class__") "__get__" = some (some (.builtin "getset_descriptor.__get__"))
  ct : PySem.W.takesIn K (.builtin "object.__class__") = some true
  ob : PySem.W.mroIn K C (.type "object") = some true
  hd : PySem.W.hasDictIn K C = true
/-- at a stands an exception of C, its dict as d says -/
def XAt (H : Hp) (a C : Addr) (d : Option Addr) : Prop := H a = some (exo a C d) ∧ (d = none ∨ ∃ dx fs, d = some dx ∧ H dx = some (exd dx fs))
section
variable {X : Cx} {pins : List (Addr × Obj)} {σ : L2.St} {H : Hp} {s : Shared}
theorem xat_inst {a C : Addr} {d : Option Addr} (I : Inv X pins σ H s) (h : XAt H a C d) : ∃ ox od, PySem.W.InstAt s.heap a ox C od := by
  obtain ⟨h1, h2⟩ := h
  obtain ⟨t1, ho⟩ := exo_at I.hok h1
  rcases h2 with rfl | ⟨dx, fs, rfl, h2⟩
  · exact ⟨_, none, ho, rfl, rfl, trivial⟩
  · obtain ⟨mA, hns, _⟩ := exd_at I.hok h2
    obtain ⟨od, hod, _⟩ := lookIn_ns hns
    exact ⟨_, some od, ho, rfl, rfl, hod⟩
/-- isinstance(e, c), e an exception held as a value -/
def rIsx (K : PySem.W.Frag) : List V → Hp → VK → Prop := fun xs H Q => ∃ (a C : Addr) (d : Option Addr) (c : V) (u : Value) (b : Bool), xs = [.ref a, c] ∧ XAt H a C d ∧ ClsV c u ∧ ExV K C ∧ PySem.W.kitOne K (.ref C) u = some b ∧ Q (.bl b) H
theorem cr_isx : CallR X (.builtin "isinstance") (rIsx X.K) := fun pins s σ H xs us Q I r h => by
  obtain ⟨a, C, d, c, u, b, rfl, hx, k, E, e, q⟩ := h
  obtain ⟨u1, u2, rfl, r1, r2⟩ := vals2 r
  have e2 := k.eq r2
  subst e2
  cases (show u1 = Value.ref a from r1)
  obtain ⟨ox, od, J⟩ := xat_inst I hx
  exact PySem.W.kia_one (PySem.W.kitx_exc E.cl E.ga E.gt E.sb E.ca E.cg E.ct E.ob) I.kIn J e (fun z => nomatch z) fun tk => ⟨.bl b, H, I.tok tk, rfl, q⟩
/-- e.n -/
def tXat (K : PySem.W.Frag) (n : Str) (te : TE) : TE := fun σ H Q => te σ H fun x H1 => ∃ (a C dx : Addr) (fs : List (Str × V)) (v : V), x = .ref a ∧ H1 a = some (exo a C (some dx)) ∧ H1 dx = some (exd dx fs) ∧ ExV K C ∧ PySem.W.findIn K (.ref C) n = some none ∧ fs.lookup n = some v ∧ Q v H1
theorem pe_xat {e : Expr} {te : TE} {n : Str} {pos : Pos} (he : PE X e te) (hb : attributeBase e n X.env (eval e X.env) = eval e X.env := by rfl) : PE X (.Attribute e n pos) (tXat X.K n te) := ⟨fun pins s σ H Q I h => by
  refine attr_of hb (thn (he.run pins s σ H _ I h) fun u s1 hh => ?_)
  obtain ⟨x, H1, I1, rx, a, C, dx, fs, v, ex, ea, ed, E, hno, l, q⟩ := hh
  subst ex
  cases (show u = Value.ref a from rx)
  obtain ⟨t1, ho⟩ := exo_at I1.hok ea
  obtain ⟨mA, hns, hr⟩ := exd_at I1.hok ed
  obtain ⟨od, hod, hl⟩ := lookIn_ns hns
  obtain ⟨u, hu, ru⟩ := RelO.some_of (v := v) (o := mA n) (by rw [← l]; exact hr n)
  have J : PySem.W.InstAt s1.heap a _ C (some od) := ⟨ho, rfl, rfl, hod⟩
  exact HandSPX.exc_get I1.kIn J E.ga E.gt E.sb (PySem.W.findObj_own E.hd hno rfl (by rw [hl, hu])) (handed_of ru) ⟨v, H1, I1.tok _, ru, q⟩⟩
/-- C(e, ..), by C's own __init__ -/
def tXmk (C : Addr) (sp : Sp) (ta : TA) : TE := fun σ H Q => ta σ H fun vs H1 => vs.length ≤ 1000 ∧ ∀ a, H1 a = none → sp (.ref a :: (vs ++ [])) (upd H1 a (exo a C none)) (fun v H2 => v = .non ∧ Q (.ref a) H2) E0
theorem pe_xmk {e : Expr} {es : List Expr} {ta : TA} {p pos : Pos} {x : Str} {C fI : Addr} {k : Nat} {fd : FuncData} {ps : List Str} {sp : Sp} (T : OexC X.K C) (iC : PySem.W.findIn X.K (.ref C) "__init__" = some (some (.ref fI))) (tI : PySem.W.typeIn X.K (.ref fI) = some (.type "function"))
    (F1 : FnOk X.prog X.w X.K X.mg X.base CX0 k fI fd ps sp) (hr : Room (k + 1) X.A) (hb : Binds X.K fd ps []) (hm : X.mg x = some (.ref C)) (ha : PA X (e :: es) ta) (hg : Gl X x := by rfl)
    (hdb : (x == ("__debug__" : Str)) = false := by decide) (he : starEach (e :: es) X.env = (false, eval e X.env) :: starEach es X.env := by rfl) (hpl : (backTo pos (starEach es X.env)).any (·.1) = false := by rfl) :
    PE X (.Call (.Name x p) (e :: es) [] pos) (tXmk C sp ta) := ⟨fun pins s σ H Q I h => by
  obtain ⟨nm, q, N, bs, bm, sn, sub, ab, col, dd, k0, k1, k2, k3, k5, hC, hbm⟩ := T.cls
  refine wpAny_Call_Name_kw (ld_glob I hg hm (PySem.W.callWith_K (h₀ := X.base) I.ok.mod.kin T.kC (thn (ha.run pos pins s σ H _ I h) fun us s1 ⟨vs, H1, I1, r1, hz, q1⟩ => ⟨I1.kIn, ?_⟩) he hpl) hdb)
  show wpAny _ _ (call (.ref C) us) _ _ _
  obtain ⟨hp, g, dr, tk, os⟩ := s1
  have hn : H1 (hp.objs.size + 1) = none := I1.hok.fresh (Nat.le_succ _)
  have hq := q1 (hp.objs.size + 1) hn
  have hget : ((hp.push (PySem.W.kdv_tup us)).push (PySem.HandSPX.excO C hp.objs.size)).get? (hp.objs.size + 1) = some (PySem.HandSPX.excO C hp.objs.size) := by heap_get
  have I2 : Inv X pins σ (upd H1 (hp.objs.size + 1) (exo (hp.objs.size + 1) C none)) ⟨(hp.push (PySem.W.kdv_tup us)).push (PySem.HandSPX.excO C hp.objs.size), g, dr, tk, os⟩ := I1.laid (t' := tk) (a := hp.objs.size + 1) (o := exo (hp.objs.size + 1) C none) (h' := (hp.push (PySem.W.kdv_tup us)).push (PySem.HandSPX.excO C hp.objs.size)) (fun b o e => Heap.get?_push_of_some _ (Heap.get?_push_of_some _ e)) (Nat.le_succ _) (exo_ok hget)
  have r2 : Vals (V.ref (hp.objs.size + 1) :: (vs ++ [])) (Value.ref (hp.objs.size + 1) :: (us ++ [])) := .cons rfl (r1.append .nil)
  have hl : (Value.ref (hp.objs.size + 1) :: us ++ []).length = ps.length := (F1.len _ _ _ _ hq ▸ r2.length).symm
  have hus : us.length ≤ sizeLine := by
    rw [← Paired.length r1, sizeLine_eq]
    omega
  refine wpAny_call (PySem.HandSPX.call_own F.excBase_ValueError (fun Y => PySem.HandSPX.refsVE_contains Y bm hbm) (I1.kIn _ _ hC) (PySem.W.looks_findIn I1.kIn iC) (fun self => PySem.W.bind_fn I1.kIn self tI) hus ?_)
  refine codeAny_mono (F1.run _ X.stack _ _ ⟨Value.ref (hp.objs.size + 1) :: us, []⟩ (Value.ref (hp.objs.size + 1) :: (us ++ [])) _ _ E0 (hr.make C us []) (I2.env0.make C us []) (by have z := hb _ (Value.ref (hp.objs.size + 1) :: us) I2.kIn hl; rw [List.cons_append] at z; exact z) r2 hq) fun r s' hq' => ?_
  cases r with
  | error er => exact hq'.elim
  | ok fl =>
    cases fl with
    | ret u =>
      obtain ⟨v, H2, J, rv, ev, q2⟩ := I2.after hq'
      subst ev
      exact ⟨rv, .ref (hp.objs.size + 1), H2, J, rfl, q2⟩
    | next => exact hq'.elim
    | brk => exact hq'.elim
    | cont => exact hq'.elim⟩
/-- C() of a class without own __init__ -/
def tXmk0 (C : Addr) : TE := fun _ H Q => ∀ a, H a = none → Q (.ref a) (upd H a (exo a C none))
theorem pe_xmk0 {x : Str} {C : Addr} {bmB : List Value} {B newId initId : String} {p pos : Pos} (F : ExcBaseFacts B newId initId bmB) (q : PySem.W.excIn X.K C bmB newId = true) (kC : PySem.W.keepIn X.K (.ref C) = true) (hm : X.mg x = some (.ref C)) (hg : Gl X x := by rfl)
    (hdb : (x == ("__debug__" : Str)) = false := by decide) : PE X (.Call (.Name x p) [] [] pos) (tXmk0 C) := ⟨fun pins s σ H Q I h => by
  refine wpAny_Call_Name_kw (ld_glob I hg hm (PySem.W.callWith_K0 I.kIn kC ?_) hdb)
  show wpAny _ _ (call (.ref C) []) _ _ _
  obtain ⟨bm, N, nm, qn, bs, hdct, sn, sub, ab, col, dd, k0, k1, k2, k3, k5, mN, hC, hN, hni, T⟩ := exc_obj I.kIn q
  refine wpAny_call_exc_subT F T hC hN hni (fun h' a hmk => ?_) (by rw [sizeLine_eq]; exact Nat.zero_le _)
  have hn : H a = none := I.hok.gone hmk.new
  obtain ⟨t, ht, _, _⟩ := hmk.there
  exact ⟨.ref a, upd H a (exo a C none), I.laidN hmk.keeps hmk.new hn (exo_ok ht), rfl, h a hn⟩⟩
end
end Pw

set_option maxHeartbeats 1000000
namespace Pw
open PySem PySem.Spec PyProof.Rows L2 Evl
/-- the promise of an __init__ that stores its two arguments -/
def spX2 (C : Addr) (f1 f2 : Str) : Sp := fun vs H Q _ => ∃ (a : Addr) (v1 v2 : V), vs = [.ref a, v1, v2] ∧ H a = some (exo a C none) ∧
  ∀ dx H', H dx = none → dx ≠ a → H' a = some (exo a C (some dx)) → H' dx = some (exd dx [(f2, v2), (f1, v1)]) → (∀ b, b ≠ a → b ≠ dx → H' b = H b) → Q .non H'
section
variable {P : Program} {w : World} {K : PySem.W.Frag} {mg : Str → Option Value} {base : Heap}
/-- the body: self.f1 = .., self.f2 = .. -/
theorem init2 {C fI : Addr} {fd : FuncData} {qual f1 f2 g1 g2 : Str} {params : Arguments} {body : List Stmt} {scope : Scope} {p1 p2 p3 p4 p5 p6 p7 p8 : Pos} (F : FunD K "__init__" qual params body scope [] [] fI fd) (S : FnScope [("self" : Str), g1, g2] [("self" : Str), g1, g2] scope)
    (T : OexC K C) (n1 : PySem.W.findIn K (.ref C) f1 = some none) (n2 : PySem.W.findIn K (.ref C) f2 = some none)
    (hd : ∀ (X : Cx), X.N = [("self" : Str), g1, g2] → X.env.scope = scope → X.K = K → PSs X body (tSeq (tOst X.K f1 (tVar 0) (tVar 1)) (tOst X.K f2 (tVar 0) (tVar 2)))) : FnOk P w K mg base CX0 1 fI fd [("self" : Str), g1, g2] (spX2 C f1 f2) := by
  refine F.ok S (fun vs H Q E h => ?_) fun cdv A outer s H vs Q E hr h => ⟨_, hd _ rfl rfl rfl, ?_⟩
  · obtain ⟨a, v1, v2, rfl, _⟩ := h
    rfl
  · obtain ⟨a, v1, v2, rfl, ha, q⟩ := h
    refine ⟨v1, rfl, .ref a, rfl, a, C, rfl, T, n1, .inl ⟨ha, fun dx hx ne => ?_⟩⟩
    refine ⟨v2, rfl, .ref a, rfl, a, C, rfl, T, n2, .inr ⟨dx, [(f1, v1)], upd_same, ?_, (by show 1 ≤ 900; decide), ?_⟩⟩
    · rw [upd_ne ne, upd_same]
    · refine q dx _ hx ne ?_ upd_same fun b h1 h2 => ?_
      · rw [upd_ne ne.symm, upd_same]
      · rw [upd_ne h2, upd_ne h1, upd_ne h2]
end
section
variable {K : PySem.W.Frag} {env : En} {te tb : TE} {ta : TA} {d e z : Dt} {ds : List Dt}
theorem ee_xmk {C : Addr} {f1 f2 : Str} (h : EeA K ta env [d, e]) : Ee K (tXmk C (spX2 C f1 f2) ta) env (.exc C [f2, f1] [e, d]) := fun F0 H0 F H σ S Q q =>
  h F0 H0 F H σ S _ fun vs F1 H1 w r => by
    obtain ⟨v1, r1, rfl, q1, v2, r2, rfl, q2, e3⟩ := r
    cases e3
    refine ⟨by show 2 ≤ 1000; decide, fun a ha => ⟨a, v1, v2, rfl, upd_same, fun dx H' hx ne h1 h2 hk => ⟨rfl, ?_⟩⟩⟩
    have hx1 : H1 dx = none := by
      rw [upd_ne ne] at hx
      exact hx
    have nF : ∀ b, H1 b = none → F1 b = none := fun b hb => none_sub w.s hb
    have eF : Ex F1 (L2.upd (L2.upd F1 a (exo a C (some dx))) dx (exd dx [(f2, v2), (f1, v1)])) := fun b o hb => by
      rw [upd_ne (ne_of_none hb (nF dx hx1)), upd_ne (ne_of_none hb (nF a ha))]
      exact hb
    refine q (.ref a) (L2.upd (L2.upd F1 a (exo a C (some dx))) dx (exd dx [(f2, v2), (f1, v1)])) H' (w.trans ⟨eF, fun b o hb => ?_, fun b o hb => ?_, fun b o hb n => ?_⟩) ?_
    · rw [hk b (ne_of_none hb ha) (ne_of_none hb hx1), upd_ne (ne_of_none hb ha)]
      exact hb
    · by_cases z1 : b = dx
      · subst z1
        rw [upd_same] at hb
        rw [h2, ← hb]
      · rw [upd_ne z1] at hb
        by_cases z2 : b = a
        · subst z2
          rw [upd_same] at hb
          rw [h1, ← hb]
        · rw [upd_ne z2] at hb
          rw [hk b z2 z1, upd_ne z2]
          exact w.s b o hb
    · rw [upd_ne (ne_of_none hb hx1), upd_ne (ne_of_none hb ha)]
      exact n
    · refine ⟨a, [v2, v1], rfl, rfl, ⟨v2, [v1], rfl, q2.mono eF, v1, [], rfl, q1.mono eF, rfl⟩, .inr ⟨dx, ?_, upd_same⟩⟩
      rw [upd_ne ne.symm, upd_same]
theorem ee_xmk0 {C : Addr} : Ee K (tXmk0 C) env (.exc C [] []) := fun F0 H0 F H σ S Q q a ha =>
  q (.ref a) (L2.upd F a (exo a C none)) _ (Wk.new S.sub _ ha) ⟨a, [], rfl, rfl, rfl, .inl ⟨rfl, upd_same⟩⟩
theorem xat_of {F H : Hp} {C : Addr} {fs : List Str} {v : V} (s : Ex F H) (r : Rp K F (.exc C fs ds) v) : ∃ a d, v = .ref a ∧ XAt H a C d := by
  obtain ⟨a, vs, rfl, _, _, h⟩ := r
  rcases h with ⟨_, h⟩ | ⟨dx, h1, h2⟩
  · exact ⟨a, none, rfl, s _ _ h, .inl rfl⟩
  · exact ⟨a, some dx, rfl, s _ _ h1, .inr ⟨dx, _, rfl, s _ _ h2⟩⟩
theorem rl_isx {C D : Addr} {fs : List Str} {b : Bool} (E : ExV K C) (h : PySem.W.kitOne K (.ref C) (.ref D) = some b) : RLd K (rIsx K) [.exc C fs ds, .adr D] (.bl b) := fun F H vs s r Q q => by
  obtain ⟨v, r1, rfl, e1, v2, r2, rfl, e2, e3⟩ := r
  cases e2; cases e3
  obtain ⟨a, d, rfl, hx⟩ := xat_of s e1
  exact ⟨a, C, d, .ref D, .ref D, b, rfl, hx, .own D, E, h, q _ F H (Wk.refl s) rfl⟩
theorem rl_isxT {C : Addr} {n : String} {fs : List Str} {b : Bool} (E : ExV K C) (h : PySem.W.kitOne K (.ref C) (.type n) = some b) : RLd K (rIsx K) [.exc C fs ds, .ty n] (.bl b) := fun F H vs s r Q q => by
  obtain ⟨v, r1, rfl, e1, v2, r2, rfl, e2, e3⟩ := r
  cases e2; cases e3
  obtain ⟨a, d, rfl, hx⟩ := xat_of s e1
  exact ⟨a, C, d, .ty n, .type n, b, rfl, hx, .ty n, E, h, q _ F H (Wk.refl s) rfl⟩
theorem zip_lookup {K : PySem.W.Frag} {F : Hp} {n : Str} : ∀ {fs : List Str} {ds : List Dt} {vs : List V} {d : Dt}, RpL K F ds vs → (fs.zip ds).lookup n = some d → ∃ v, (fs.zip vs).lookup n = some v ∧ Rp K F d v
  | [], ds, vs, d, _, h => by simp at h
  | f :: fs, [], vs, d, _, h => by simp at h
  | f :: fs, e :: ds, vs, d, r, h => by
    obtain ⟨v, r', rfl, q1, q2⟩ := r
    rw [List.zip_cons_cons, List.lookup_cons] at h ⊢
    by_cases z : (n == f) = true
    · rw [z] at h ⊢
      cases h
      exact ⟨v, rfl, q1⟩
    · have z : (n == f) = false := by simpa using z
      rw [z] at h ⊢
      exact zip_lookup q2 h
theorem ee_xat {C : Addr} {n : Str} {f : Str} {fs : List Str} (h : Ee K te env (.exc C (f :: fs) ds)) (E : ExV K C) (hn : PySem.W.findIn K (.ref C) n = some none) (hl : ((f :: fs).zip ds).lookup n = some d) : Ee K (tXat K n te) env d := fun F0 H0 F H σ S Q q =>
  h F0 H0 F H σ S _ fun v F1 H1 w r => by
    obtain ⟨a, vs, rfl, l1, rl, h⟩ := r
    rcases h with ⟨z, _⟩ | ⟨dx, h1, h2⟩
    · cases z
    · obtain ⟨u, g1, g2⟩ := zip_lookup rl hl
      exact ⟨a, C, dx, _, u, rfl, w.s _ _ h1, w.s _ _ h2, E, hn, g1, q u F1 H1 w g2⟩
/-- xs + ys, xs an own list, ys a new one -/
theorem en_cat {i : Nat} {es : List Dt} (hi : env[i]? = some (.ol ds)) (h : EnL K tb env es) (hz : ds.length + es.length ≤ 100000) : EnL K (tOp rCat (tVar i) tb) env (ds ++ es) := fun F0 H0 F H σ S Q q => by
  obtain ⟨v, h1, a, vs, rfl, g1, g2, g3, g4⟩ := S.sl i _ hi
  refine ⟨_, h1, h F0 H0 F H σ S _ fun p us F1 H1 w n1 n2 k1 k2 => ⟨a, p, vs, us, rfl, rfl, w.h a _ g3, k1, by rw [← g4.length, ← k2.length]; exact sz_of hz, fun l hl => ?_⟩⟩
  exact q l _ F1 _ (w.trans (Wk.own w.s _ hl)) (fresh_back w.h hl) (none_sub w.s hl) upd_same (RpL.append (g4.mono w.f) k2)
end
end Pw
namespace Pw
open PySem PySem.Spec PyProof.Rows L2 Evl
/-- the class x of the text, at C, makes exceptions by its own __init__ with the promise sp -/
def Xm (P : Program) (w : World) (K : PySem.W.Frag) (mg : Str → Option Value) (base : Heap) (x : Str) (C : Addr) (sp : Sp) : Prop :=
  ∃ (fI : Addr) (fd : FuncData) (ps : List Str), mg x = some (.ref C) ∧ OexC K C ∧ PySem.W.findIn K (.ref C) "__init__" = some (some (.ref fI)) ∧ PySem.W.typeIn K (.ref fI) = some (.type "function") ∧ Binds K fd ps [] ∧ FnOk P w K mg base CX0 1 fI fd ps sp
/-- .. without an __init__ -/
def Xm0 (K : PySem.W.Frag) (mg : Str → Option Value) (x : Str) (C : Addr) : Prop :=
  mg x = some (.ref C) ∧ PySem.W.excIn K C [.type "ValueError", .type "Exception", .type "BaseException", .type "object"] "ValueError.__new__" = true ∧ PySem.W.keepIn K (.ref C) = true
section
variable {X : Cx}
theorem pe_xm {x : Str} {C : Addr} {sp : Sp} {e : Expr} {es : List Expr} {ta : TA} {p pos : Pos} (G : Xm X.prog X.w X.K X.mg X.base x C sp) (hr : Room 2 X.A) (ha : PA X (e :: es) ta) (hg : Gl X x := by rfl)
    (hdb : (x == ("__debug__" : Str)) = false := by decide) (he : starEach (e :: es) X.env = (false, eval e X.env) :: starEach es X.env := by rfl) (hpl : (backTo pos (starEach es X.env)).any (·.1) = false := by rfl) :
    PE X (.Call (.Name x p) (e :: es) [] pos) (tXmk C sp ta) := by
  obtain ⟨fI, fd, ps, h1, h2, h3, h4, h5, h6⟩ := G
  exact pe_xmk h2 h3 h4 h6 hr h5 h1 ha hg hdb he hpl
theorem pe_xm0 {x : Str} {C : Addr} {p pos : Pos} (G : Xm0 X.K X.mg x C) (hg : Gl X x := by rfl) (hdb : (x == ("__debug__" : Str)) = false := by decide) : PE X (.Call (.Name x p) [] [] pos) (tXmk0 C) :=
  pe_xmk0 PySem.F.excBase_ValueError G.2.1 G.2.2 G.1 hg hdb
end
end Pw
namespace Pw
open PySem PySem.Spec PyProof.Rows L2 Evl
theorem pe_globR {X : Cx} {x : Str} {a : Addr} {pos : Pos} (h : X.mg x = some (.ref a)) (hg : Gl X x := by rfl) (hd : (x == ("__debug__" : Str)) = false := by decide) : PE X (.Name x pos) (tC (.ref a)) := pe_glob hg h rfl hd
end Pw
namespace Pw
open PySem PySem.Spec PyProof.Rows L2 Evl
section
variable {K : PySem.W.Frag} {env : En} {te : TE} {tA : TA} {g : TG} {tb : TS}
theorem rangeD_nat (n : Nat) : rangeD 0 (n : Int).toNat = (List.range n).map fun (i : Nat) => Dt.int (i : Int) := by
  unfold rangeD
  rw [Int.toNat_natCast]
  refine List.map_congr_left fun i _ => ?_
  rw [Int.zero_add]
/-- for i in range(n) -/
theorem se_rng {S : Type} (n : Nat) (h : EeA K tA env [.int (n : Int)]) (hn : n ≤ 100000) (enc : S → En) (step : S → Nat → S) (P : S → Nat → Prop) (s0 : S) (h0 : Le env (enc s0)) (p0 : P s0 0)
    (hs : ∀ s (i : Nat), i < n → P s i → P (step s i) (i + 1) ∧ ∃ e1, Ge K g (.int (i : Int)) (enc s) e1 ∧ Se K tb e1 (.nc (enc (step s i)))) : Se K (tFor (iRng1 tA) g tb) env (.nx (enc ((List.range n).foldl step s0))) := by
  refine se_fold (List.range n) (fun i => Dt.int (i : Int)) (rangeD_nat n) (ie_rng1 h (by omega)) enc step (fun s pre => P s pre.length) s0 h0 p0 fun s pre i post hx hp => ?_
  have hi : pre.length < n ∧ i = pre.length := by
    have h1 := congrArg List.length hx
    have h2 : (List.range n)[pre.length]? = some i := by rw [hx]; simp
    simp at h1
    rw [List.getElem?_range (by omega)] at h2
    exact ⟨by omega, (Option.some.inj h2).symm⟩
  obtain ⟨hl, rfl⟩ := hi
  obtain ⟨h1, h2⟩ := hs s pre.length hl hp
  refine ⟨?_, h2⟩
  rw [List.length_append]
  exact h1
theorem en_rng {j n : Nat} (h : EeA K tA env [.int (n : Int)]) (hn : n ≤ 40000) (v : Nat → Dt) (he : ∀ i : Nat, i < n → Ee K te (env.set j (.d (.int (i : Int)))) (v i)) : EnL K (tLc (iRng1 tA) (gName j) tYes te [j]) env ((List.range n).map v) := by
  have hl : (rangeD 0 (n : Int).toNat).length ≤ 40000 := by rw [rangeD_nat]; simpa using hn
  have h1 := en_map (K := K) (te := te) (j := j) (ie_rng1 h (by omega)) hl (fun d => match d with | .int x => v x.toNat | _ => .non) fun d hd => by
    rw [rangeD_nat] at hd
    obtain ⟨i, hi, rfl⟩ := List.mem_map.mp hd
    exact he i (by simpa using hi)
  rw [rangeD_nat, List.map_map] at h1
  exact h1
end
end Pw

set_option maxHeartbeats 3200000
namespace Qs
open PySem PySem.Spec PyProof.Rows L2
/-! ### set(xs), xs a list of ints and texts -/
def memK (ks : List Key) : Key → Bool := fun k => ks.any fun j => decide (k = j)
theorem setOf_eq {P : Program} {w : World} {h : Heap} {a : Addr} {S T : Key → Bool} {n : Nat} (q : h.SetOf (mixKind P w) a S n) (e : ∀ k, S k = T k) : h.SetOf (mixKind P w) a T n := (funext e : S = T) ▸ q
section
variable {prog : Program} {w : World} {A : Around} {R : Result → Shared → Prop} {I : Addr} {fp wr : List Addr}
  {G : Array GenState → Array GenState → Prop} {n : Nat} {Y : Nat → Value → Prop} {St : Nat → Shared → Prop}
def SetUp (prog : Program) (w : World) (S : Addr) (ks : List Key) (i : Nat) (h : Heap) : Prop :=
  ∃ m, m ≤ i ∧ h.SetOf (mixKind prog w) S (memK (ks.take i)) m
theorem SetUp.move {S : Addr} {ks : List Key} {i : Nat} {h h' : Heap} (q : SetUp prog w S ks i h) (k : ∀ o, h.get? S = some o → h'.get? S = some o) : SetUp prog w S ks i h' := by
  obtain ⟨m, hm, r⟩ := q
  exact ⟨m, hm, setOf_at r k⟩
theorem updates (W : WalksS prog w A.in1 I fp wr G n Y St) (S : Addr) (nS : S ∉ fp) (ks : List Key)
    (hY : ∀ i v, Y i v → ∃ k, ks[i]? = some k ∧ RelV (kV k) v) (hb : n + 1 < scanBound) :
    ∀ (left i : Nat) (s : Shared), n - i = left → i ≤ n → St i s → SetUp prog w S ks i s.heap →
      (∀ s', Moved (S :: wr) G s s' → SetUp prog w S ks n s'.heap → R (.ok (.ret .none)) s') →
      codeAny (model prog w) A (.builtin "set.update.loop" ⟨[.ref S, .ref I], []⟩) R s := by
  have nw : S ∉ wr := fun z => nS (W.sub _ z)
  have sub : ∀ b ∈ wr, b ∈ S :: wr := fun b z => List.mem_cons_of_mem _ z
  intro left
  induction left with
  | zero =>
    intro i s e le st up done
    obtain rfl : i = n := by omega
    refine codeAny_builtin F.entry_set_update_loop ?_
    rw [Around.under_plainId F.plain_set_update_loop _]
    refine wpAny_bind (m := pyNext (.ref I)) (W.done s _ _ st fun s' hm => ?_)
    exact wpAny_pure (done s' (hm.mono sub) (up.move fun o z => hm.heap S _ nw z))
  | succ left ih =>
    intro i s e le st up done
    have lt : i < n := by omega
    refine codeAny_builtin F.entry_set_update_loop ?_
    rw [Around.under_plainId F.plain_set_update_loop _]
    refine wpAny_bind (m := pyNext (.ref I)) (W.item i s _ _ lt st fun v s' y st' hm => ?_)
    obtain ⟨k, hk, rk⟩ := hY i v y
    obtain ⟨m, hmi, up'⟩ := up.move (h' := s'.heap) fun o z => hm.heap S _ nw z
    have isk := kV_is (P := prog) (w := w) rk
    refine wpAny_bind (m := holding [v] (setAdd S v)) (wpAny_holding ?_)
    unfold setAdd
    refine wpAny_holding (wpAny_bind ((mixKind prog w).pyHash isk ?_))
    refine wpAny_setAddHashed_of (s := { s' with toks := s'.toks + 1 }) isk (key_scan rk) up' (by omega) fun h' sb up2 => ?_
    have next : SetUp prog w S ks (i + 1) h' := by
      refine ⟨_, ?_, setOf_eq up2 fun j => ?_⟩
      · split <;> omega
      · show (memK (ks.take i) j || decide (j = k)) = memK (ks.take (i + 1)) j
        rw [List.take_add_one, hk]
        simp [memK]
    refine wpAny_pure ⟨plainId_quiet F.plain_set_update_loop _, ih (i + 1) _ (by omega) lt (W.frame _ s' _ _ st' (Nat.le_succ _) fun b hb o z => ?_) next fun s2 m2 u2 => ?_⟩
    · rw [sb.2 b (fun z : b = S => nS (z ▸ hb))]
      exact z
    · refine done s2 (Moved.trans W.gtrans ((hm.mono sub).then_heap (Nat.le_succ _) fun b o hb z => ?_) m2) u2
      rw [sb.2 b (fun z : b = S => hb (z ▸ List.mem_cons_self))]
      exact z
end

section
variable {prog : Program} {w : World} {A : Around} {E : Value → Shared → Prop} {s : Shared}
/-- what is known behind set(xs) -/
def SetMade (prog : Program) (w : World) (s : Shared) (ks : List Key) (h' : Heap) : Prop :=
  SetUp prog w s.heap.objs.size ks ks.length h' ∧ ∀ b o, b < s.heap.objs.size → s.heap.get? b = some o → h'.get? b = some o
theorem keysAt : ∀ {ks : List Key} {us : List Value}, Vals (ks.map kV) us → ∀ (i : Nat) (v : Value), us[i]? = some v → ∃ k : Key, ks[i]? = some k ∧ RelV (kV k) v
  | [], _, r, i, v, e => by
    cases r
    simp at e
  | k :: ks, _, r, 0, v, e => by
    cases r with
    | cons h t =>
      simp at e
      subst e
      exact ⟨k, rfl, h⟩
  | k :: ks, _, r, i + 1, v, e => by
    cases r with
    | cons h t => exact keysAt t i v (by simpa using e)
theorem keysLen : ∀ {ks : List Key} {us : List Value}, Vals (ks.map kV) us → ks.length = us.length
  | [], _, r => by cases r; rfl
  | k :: ks, _, r => by
    cases r with
    | cons h t => simp [keysLen t]
abbrev freshSet (led : Bool) : Obj := { cls := .type "set", dict := none, data := .set #[] 0 (.fresh 0 0 led) }
theorem init_set {l : Addr} {items : Array Value} {ks : List Key} (led : Bool) (calm : A.handled = none) (hl : s.heap.IsList l items)
    (hi : Vals (ks.map kV) items.toList) (hb : ks.length + 1 < scanBound) :
    codeAny (model prog w) A (.call (.builtin "set.__init__") ⟨[.ref s.heap.objs.size, .ref l], []⟩)
      (wants (fun r s2 => r = .none ∧ ∃ h' tk, s2 = { s with heap := h', toks := tk } ∧ SetMade prog w s ks h') E)
      { s with heap := s.heap.push (freshSet led) } := by
  have len : ks.length = items.size := by simpa using keysLen hi
  have atS : (s.heap.push (freshSet led)).get? s.heap.objs.size = some (freshSet led) := Heap.get?_push_size _ rfl
  have tyS : Shared.TypeIs { s with heap := s.heap.push (freshSet led) } (.ref s.heap.objs.size) "set" := ⟨_, atS, rfl⟩
  obtain ⟨ol, hol, hc, nl, hd⟩ := hl
  have ltL : l < s.heap.objs.size := Heap.lt_size hol
  obtain ⟨ocls, odict, odata, oslots⟩ := ol
  simp only at hc hd
  subst hc hd
  have atL : (s.heap.push (freshSet led)).get? l = some { cls := .type "list", dict := odict, data := .seq items nl, slots := oslots } := Heap.get?_push_of_some _ hol
  have isL : (s.heap.push (freshSet led)).IsList l items := ⟨_, atL, rfl, nl, rfl⟩
  refine codeAny_call_builtin PySem.F.called_set.init.plain PySem.F.entry_set_init (check_set_init_1 tyS ?_)
  have f1 := PySem.F.sub_list_set
  have f2 := PySem.F.sub_list_frozenset
  have f3 : (Value.type "list" == Value.type "dict") = false := by decide
  unfold Builtin.«set.__init__» noKeywords Builtin.Frozenset.updateFrom
  generalize walk : pyIter = it
  wp_walk
  subst walk
  refine wpAny_pyIter_list isL (wpAny_bind (wpAny_runValue ?_))
  have hh : A.in1.in1.handled = none := by simp [calm]
  have sz : (s.heap.push (freshSet led)).objs.size = s.heap.objs.size + 1 := Heap.size_push _ _
  have n1 : l ≠ (s.heap.push (freshSet led)).objs.size := by
    rw [sz]
    exact Nat.ne_of_lt (Nat.lt_succ_of_lt ltL)
  have n2 : s.heap.objs.size ∉ [(s.heap.push (freshSet led)).objs.size, l] := by
    rw [sz]
    simp only [List.mem_cons, List.not_mem_nil, or_false, not_or]
    exact ⟨Nat.ne_of_lt (Nat.lt_succ_self _), Nat.ne_of_gt ltL⟩
  refine updates (ks := ks) ((Walks.list hh _ l n1 items).toS) s.heap.objs.size n2 (fun i v hv => keysAt hi i v (by rw [Array.getElem?_toList]; exact hv))
    (by rw [← len]; exact hb) (items.size - 0) 0 _ (by omega) (Nat.zero_le _) ?start ⟨0, Nat.le_refl _, ?_⟩ fun s' hm up => ?_
  case start => exact ⟨⟨_, Heap.get?_push_size _ rfl, rfl, rfl⟩, isL.push _⟩
  · have at2 : ((s.heap.push (freshSet led)).push { cls := .type "list_iterator", data := .fields #[.ref l, .int 0 0] }).get? s.heap.objs.size = some (freshSet led) := Heap.get?_push_of_some _ atS
    exact ⟨_, #[], 0, _, at2, ⟨rfl, rfl, rfl⟩, rfl, fun e z => by simp at z, fun k => by simp [memK], by decide, rfl, rfl⟩
  · obtain ⟨h', g', d', tk', os'⟩ := s'
    obtain rfl : g' = s.gens := hm.gens
    obtain rfl : d' = s.drawn := hm.drawn
    obtain rfl : os' = s.os := hm.os
    refine wpAny_pure (wpAny_pure ⟨rfl, h', tk', rfl, by rw [len]; exact up, fun b o hb e => ?_⟩)
    refine hm.heap b o ?_ (Heap.get?_push_of_some _ (Heap.get?_push_of_some _ e))
    rw [sz]
    simp only [List.mem_cons, List.not_mem_nil, or_false, not_or]
    exact ⟨Nat.ne_of_lt hb, Nat.ne_of_lt (Nat.lt_succ_of_lt hb)⟩
theorem made_set {l : Addr} {items : Array Value} {ks : List Key} {Q : Value → Shared → Prop} (calm : A.handled = none) (hl : s.heap.IsList l items)
    (hi : Vals (ks.map kV) items.toList) (hb : ks.length + 1 < scanBound)
    (fin : ∀ (h' : Heap) (tk : Nat), SetMade prog w s ks h' → Q (.ref s.heap.objs.size) { s with heap := h', toks := tk }) :
    wpAny (model prog w) A (call (.type "set") [.ref l]) Q E s := by
  obtain ⟨c, tl, mro⟩ := PySem.F.called_set.mro
  have q1 := PySem.F.called_set.made
  have q2 := PySem.F.called_set.sub
  have q3 := PySem.F.called_set.notType
  have q4 := PySem.F.called_set.canCreate
  have q5 := PySem.F.typeCall_set_1 (.ref l)
  refine wpAny_call (codeAny_of_tree ?_)
  show wpAny _ _ (callAny (.type "set") _) _ _ _
  refine wpAny_pure ⟨Code.quiet_builtin _ (by decide +kernel), codeAny_builtin PySem.F.entry_type_call ?_⟩
  rw [Around.under_plain (weight_type_call_type "set" [.ref l] []) rfl]
  repeat (any_goals (first | assumption | wp_step))
  refine codeAny_mono (code_set_new_1 (.ref l) (E := E) (Q₁ := fun obj t => ∃ led : Bool, obj = .ref s.heap.objs.size ∧ t = { s with heap := s.heap.push (freshSet led) }) fun led => ⟨led, rfl, rfl⟩) fun r t hr => ?_
  cases r with
  | error e => exact hr
  | ok fl =>
    cases fl with
    | ret obj =>
      obtain ⟨led, rfl, rfl⟩ := hr
      have tyS : Shared.TypeIs { s with heap := s.heap.push (freshSet led) } (.ref s.heap.objs.size) "set" := ⟨_, Heap.get?_push_size _ rfl, rfl⟩
      have q6 := PySem.F.called_set.init.lookup
      have q7 := PySem.F.called_set.init.bind (.ref s.heap.objs.size)
      repeat (any_goals (first | assumption | wp_step))
      refine codeAny_mono (init_set (E := E) led (by simp [calm]) hl hi hb) fun r2 s2 hr2 => ?_
      cases r2 with
      | error e => exact hr2
      | ok fl2 =>
        cases fl2 with
        | ret r =>
          obtain ⟨rfl, h', tk, rfl, made⟩ := hr2
          repeat (any_goals (first | assumption | wp_step))
          exact fin _ _ made
        | next => exact hr2.elim
        | brk => exact hr2.elim
        | cont => exact hr2.elim
    | next => exact hr.elim
    | brk => exact hr.elim
    | cont => exact hr.elim
/-- set(xs): a new set of the items of a list of ints and texts -/
def rSetL (K : PySem.W.Frag) (P : Program) (w : World) : List V → Hp → VK → Prop := fun xs H Q => ∃ (l : Addr) (ks : List Key), xs = [V.ref l] ∧ SqL K H l (ks.map kV) ∧ ks.length ≤ 4000 ∧
  ∀ p m, m ≤ ks.length → H p = none → Q (.ref p) (upd H p (SetK P w p (memK ks) m))
theorem cr_setL {X : Cx} (hc : X.calm = true) : CallR X (.type "set") (rSetL X.K X.prog X.w) := by
  intro pins s σ H xs us Q I r h
  obtain ⟨l, ks, rfl, hl, few, q⟩ := h
  rw [Vals.ref1 r]
  obtain ⟨its, rv, pl, _⟩ := I.list hl
  refine made_set (ks := ks) (I.ok.hd hc) pl.isList (by simpa using rv) (by unfold scanBound; omega) fun h' tk made => ?_
  obtain ⟨⟨m, hm, up⟩, keep⟩ := made
  rw [List.take_length] at up
  exact ⟨.ref s.heap.objs.size, upd H s.heap.objs.size (SetK X.prog X.w s.heap.objs.size (memK ks) m), I.laid (t' := tk) (fun b o e => keep b o (Heap.lt_size e) e) (Nat.le_refl _) (setK_new up), rfl, q _ m hm (I.hok.fresh (Nat.le_refl _))⟩
end
end Qs

set_option maxHeartbeats 1000000
/-! ### the state: slots that hold data, or a thing of one's own (it may be changed) -/
namespace Qw
open PySem PySem.Spec PyProof.Rows L2 Evl
open Pw (Dt Rp RpL Wk none_sub get_set set_same set_ne R2d R1d RLd RLn Kq KqL)
inductive Ow where
  | lst (ds : List Dt) | dic (ks : List Key) (ds : List Dt) | dit (ks : List (List Key)) (ds : List Dt)
  | set (S : Key → Bool) (n : Nat) | ins (C : Addr) (fs : List Str) (ds : List Dt)
def OwOk (P : Program) (w : World) (K : PySem.W.Frag) (F : Hp) (a : Addr) : Ow → HO → Prop
  | .lst ds, o => ∃ vs, o = .lst vs ∧ RpL K F ds vs
  | .dic ks ds, o => ∃ vs, o = .dK (ks.zip vs) ∧ ks.length = vs.length ∧ RpL K F ds vs
  | .dit ks ds, o => ∃ vs, o = .dT (ks.zip vs) ∧ ks.length = vs.length ∧ RpL K F ds vs
  | .set S n, o => ∃ m, m ≤ n ∧ o = SetK P w a S m
  | .ins C fs ds, o => ∃ dx vs, o = .ins C dx (fs.zip vs) ∧ fs.length = vs.length ∧ RpL K F ds vs
/-- an exception of a class of the text -/
structure Xn where
  C : Addr
  fs : List Str
  ds : List Dt
def XnOk (K : PySem.W.Frag) (F : Hp) (x : Xn) (od : Option Addr) : Prop := (x.fs = [] ∧ od = none) ∨ ∃ dx vs, x.fs ≠ [] ∧ od = some dx ∧ x.fs.length = vs.length ∧ RpL K F x.ds vs ∧ F dx = some (.xd (x.fs.zip vs))
theorem XnOk.mono {K : PySem.W.Frag} {F F' : Hp} {x : Xn} {od : Option Addr} (e : Ex F F') (h : XnOk K F x od) : XnOk K F' x od := by
  rcases h with h | ⟨dx, vs, h0, h1, h2, h3, h4⟩
  · exact .inl h
  · exact .inr ⟨dx, vs, h0, h1, h2, h3.mono e, e _ _ h4⟩
inductive Sl where
  | x | u | d (d : Dt) | ow (t : Option Addr) (w : Ow) | ex (a : Addr) (od : Option Addr) (e : Xn)
abbrev Sl.ol (ds : List Dt) : Sl := .ow none (.lst ds)
abbrev En := List Sl
section
variable (P : Program) (w : World) (K : PySem.W.Frag)
def SlOk (F H0 H : Hp) (v : Option V) : Sl → Prop
  | .x => True
  | .u => v = none
  | .d d => ∃ y, v = some y ∧ Rp K F d y
  | .ow t u => ∃ p o, v = some (.ref p) ∧ (∀ q, t = some q → p = q) ∧ F p = none ∧ H0 p = none ∧ H p = some o ∧ OwOk P w K F p u o
  | .ex a od e => v = some (.ref a) ∧ XnOk K F e od
structure Sm (F0 H0 F H : Hp) (σ : L2.St) (env : En) : Prop where
  e0 : Ex F0 H0
  g : Wk F0 H0 F H
  len : σ.length = env.length
  sl : ∀ (i : Nat) (s : Sl), env[i]? = some s → ∃ v, σ[i]? = some v ∧ SlOk P w K F H0 H v s
  df : ∀ (i j : Nat) (t t' : Option Addr) (u u' : Ow) (p : Addr), i ≠ j → env[i]? = some (.ow t u) → env[j]? = some (.ow t' u') → σ[i]? = some (some (.ref p)) → σ[j]? ≠ some (some (.ref p))
end
/-- the addresses of the things of one's own -/
def Own (σ : L2.St) (env : En) (a : Addr) : Prop := ∃ (i : Nat) (t : Option Addr) (u : Ow), env[i]? = some (.ow t u) ∧ σ[i]? = some (some (.ref a))
/-- how the heaps go on while an expression is worked out -/
structure Wo (σ : L2.St) (env : En) (F H F' H' : Hp) : Prop where
  f : Ex F F'
  h : ∀ a o, H a = some o → ¬ Own σ env a → H' a = some o
  s : Ex F' H'
  n : ∀ a o, H a = some o → F a = none → F' a = none
  b : ∀ a, H' a = none → H a = none
/-- the same slots are one's own -/
def Sh (e e' : En) : Prop := e.length = e'.length ∧ ∀ (i : Nat) (s : Sl), e[i]? = some s → e'[i]? = some s ∨ ∃ (t : Option Addr) (u u' : Ow), s = .ow t u ∧ e'[i]? = some (.ow t u')
section
variable {P : Program} {w : World} {K : PySem.W.Frag} {F0 H0 F H F1 H1 F2 H2 F' H' : Hp} {σ : L2.St} {env env1 env2 : En}
theorem Sh.refl : Sh env env := ⟨rfl, fun _ _ h => .inl h⟩
theorem Sh.trans (a : Sh env env1) (b : Sh env1 env2) : Sh env env2 := ⟨a.1.trans b.1, fun i s h => by
  rcases a.2 i s h with h1 | ⟨t, u, u', rfl, h1⟩
  · exact b.2 i s h1
  · rcases b.2 i _ h1 with h2 | ⟨t2, v, v', e, h2⟩
    · exact .inr ⟨t, u, u', rfl, h2⟩
    · cases e
      exact .inr ⟨t, u, v', rfl, h2⟩⟩
theorem Sh.set {i : Nat} {t : Option Addr} {u u' : Ow} (h : env[i]? = some (.ow t u)) : Sh env (env.set i (.ow t u')) := ⟨by simp, fun j s e => by
  by_cases z : i = j
  · subst z
    rw [h] at e
    cases e
    exact .inr ⟨t, u, u', rfl, set_same (List.getElem?_eq_some_iff.mp h).1⟩
  · exact .inl (by rw [set_ne z]; exact e)⟩
theorem Sh.own (a : Sh env env1) {p : Addr} (h : Own σ env1 p) : Own σ env p := by
  obtain ⟨i, t, u, h1, h2⟩ := h
  have hi : i < env.length := by
    rw [a.1]
    exact (List.getElem?_eq_some_iff.mp h1).1
  rcases a.2 i env[i] (List.getElem?_eq_getElem hi) with h | ⟨t', v, v', e, h⟩
  · rw [h1] at h
    refine ⟨i, t, u, ?_, h2⟩
    rw [List.getElem?_eq_getElem hi, ← Option.some.inj h]
  · refine ⟨i, t', v, ?_, h2⟩
    rw [List.getElem?_eq_getElem hi, e]
theorem Wo.refl (s : Ex F H) : Wo σ env F H F H := ⟨Ex.refl F, fun _ _ h _ => h, s, fun _ _ _ h => h, fun _ h => h⟩
theorem Wo.of (k : Wk F H F' H') : Wo σ env F H F' H' := ⟨k.f, fun a o h _ => k.h a o h, k.s, k.n, fun a h => none_sub k.h h⟩
theorem Wo.trans (sh : Sh env env1) (a : Wo σ env F H F1 H1) (b : Wo σ env1 F1 H1 F2 H2) : Wo σ env F H F2 H2 :=
  ⟨a.f.trans b.f, fun p o h n => b.h p o (a.h p o h n) fun z => n (sh.own z), b.s, fun p o h n => (by
    cases e : H1 p with
    | some o' => exact b.n p o' e (a.n p o h n)
    | none =>
      rw [a.b p e] at h
      cases h), fun p h => a.b p (b.b p h)⟩
theorem OwOk.mono {a : Addr} {u : Ow} {o : HO} (e : Ex F F') (h : OwOk P w K F a u o) : OwOk P w K F' a u o := by
  cases u with
  | lst ds => obtain ⟨vs, h1, h2⟩ := h; exact ⟨vs, h1, h2.mono e⟩
  | dic ks ds => obtain ⟨vs, h1, h3, h2⟩ := h; exact ⟨vs, h1, h3, h2.mono e⟩
  | dit ks ds => obtain ⟨vs, h1, h3, h2⟩ := h; exact ⟨vs, h1, h3, h2.mono e⟩
  | set S n => exact h
  | ins C fs ds => obtain ⟨dx, vs, h1, h3, h2⟩ := h; exact ⟨dx, vs, h1, h3, h2.mono e⟩
theorem SlOk.wk {v : Option V} {s : Sl} (k : Wk F H F' H') (h : SlOk P w K F H0 H v s) : SlOk P w K F' H0 H' v s := by
  cases s with
  | x => trivial
  | u => exact h
  | d d => obtain ⟨y, e, r⟩ := h; exact ⟨y, e, r.mono k.f⟩
  | ex a od e => exact ⟨h.1, h.2.mono k.f⟩
  | ow t u =>
    obtain ⟨p, o, e, h0, h1, h2, h3, h4⟩ := h
    exact ⟨p, o, e, h0, k.n p _ h3 h1, h2, k.h p _ h3, h4.mono k.f⟩
theorem Sm.wk (S : Sm P w K F0 H0 F H σ env) (k : Wk F H F' H') : Sm P w K F0 H0 F' H' σ env :=
  ⟨S.e0, S.g.trans k, S.len, fun i s e => by
    obtain ⟨v, h1, h2⟩ := S.sl i s e
    exact ⟨v, h1, h2.wk k⟩, S.df⟩
theorem Sm.sub (S : Sm P w K F0 H0 F H σ env) : Ex F H := S.g.s
/-- an own thing's place -/
theorem Sm.own (S : Sm P w K F0 H0 F H σ env) {i : Nat} {t : Option Addr} {u : Ow} (h : env[i]? = some (.ow t u)) :
    ∃ p o, σ[i]? = some (some (.ref p)) ∧ (∀ q, t = some q → p = q) ∧ F p = none ∧ H0 p = none ∧ H p = some o ∧ OwOk P w K F p u o := by
  obtain ⟨v, h1, p, o, rfl, r⟩ := S.sl i _ h
  exact ⟨p, o, h1, r⟩
theorem Sm.ownNew (S : Sm P w K F0 H0 F H σ env) {p : Addr} (h : H p = none) : ¬ Own σ env p := fun ⟨i, t, u, e, z⟩ => by
  obtain ⟨q, o, h1, _, _, _, h3, _⟩ := S.own e
  rw [h1] at z
  cases z
  rw [h] at h3
  cases h3
theorem Sm.ownF (S : Sm P w K F0 H0 F H σ env) {p : Addr} {o : HO} (h : F p = some o) : ¬ Own σ env p := fun ⟨i, t, u, e, z⟩ => by
  obtain ⟨q, o, h1, _, h2, _⟩ := S.own e
  rw [h1] at z
  cases z
  rw [h] at h2
  cases h2
/-- an object that is nobody's slot is made or changed -/
theorem Sm.upd (S : Sm P w K F0 H0 F H σ env) {p : Addr} (o : HO) (hF : F p = none) (h0 : H0 p = none) (hp : ¬ Own σ env p) : Sm P w K F0 H0 F (L2.upd H p o) σ env :=
  ⟨S.e0, ⟨S.g.f, fun a u q => by
    rw [upd_ne (ne_of_none q h0)]
    exact S.g.h a u q, fun a u q => by
    rw [upd_ne (ne_of_none q hF)]
    exact S.g.s a u q, S.g.n⟩, S.len, fun i s e => by
    obtain ⟨v, h1, h2⟩ := S.sl i s e
    refine ⟨v, h1, ?_⟩
    cases s with
    | x => trivial
    | u => exact h2
    | d d => exact h2
    | ex a od e => exact h2
    | ow t u =>
      obtain ⟨q, z, ev, g0, g1, g2, g3, g4⟩ := h2
      have ne : q ≠ p := fun z => hp ⟨i, t, u, e, by rw [h1, ev, z]⟩
      exact ⟨q, z, ev, g0, g1, g2, by rw [upd_ne ne]; exact g3, g4⟩, S.df⟩
/-- an own thing is changed -/
theorem Sm.mut (S : Sm P w K F0 H0 F H σ env) {i : Nat} {t : Option Addr} {u u' : Ow} {p : Addr} {o : HO} (hi : env[i]? = some (.ow t u)) (hp : σ[i]? = some (some (.ref p))) (r : OwOk P w K F p u' o) :
    Sm P w K F0 H0 F (L2.upd H p o) σ (env.set i (.ow t u')) := by
  obtain ⟨q, z, h1, g0, g1, g2, g3, g4⟩ := S.own hi
  rw [hp] at h1
  cases h1
  refine ⟨S.e0, ⟨S.g.f, fun a u z => ?_, fun a u z => ?_, S.g.n⟩, by simp [S.len], fun j s e => ?_, fun a b t1 t2 u1 u2 q ne e1 e2 h => ?_⟩
  · rw [upd_ne (ne_of_none z g2)]
    exact S.g.h a u z
  · rw [upd_ne (ne_of_none z g1)]
    exact S.g.s a u z
  · rcases get_set e with ⟨rfl, rfl, l⟩ | ⟨ne, e⟩
    · exact ⟨_, hp, p, o, rfl, g0, g1, g2, upd_same, r⟩
    · obtain ⟨v, k1, k2⟩ := S.sl j s e
      refine ⟨v, k1, ?_⟩
      cases s with
      | x => trivial
      | u => exact k2
      | d d => exact k2
      | ex a od e => exact k2
      | ow t2 u2 =>
        obtain ⟨q, z, eq, f0, f1, f2, f3, f4⟩ := k2
        have nq : q ≠ p := fun z => S.df i j t t2 u u2 p ne hi e hp (by rw [k1, eq, z])
        exact ⟨q, z, eq, f0, f1, f2, by rw [upd_ne nq]; exact f3, f4⟩
  · rcases get_set e1 with ⟨ra, z1, _⟩ | ⟨n1, e1⟩
    · rcases get_set e2 with ⟨rb, z2, _⟩ | ⟨n2, e2⟩
      · exact absurd (ra.symm.trans rb) ne
      · subst ra
        exact S.df i b t t2 u u2 q ne hi e2 h
    · rcases get_set e2 with ⟨rb, z2, _⟩ | ⟨n2, e2⟩
      · subst rb
        exact S.df a i t1 t u1 u q ne e1 hi h
      · exact S.df a b t1 t2 u1 u2 q ne e1 e2 h
theorem Wo.mut (S : Sm P w K F0 H0 F H σ env) {i : Nat} {t : Option Addr} {u : Ow} {p : Addr} {o : HO} (hi : env[i]? = some (.ow t u)) (hp : σ[i]? = some (some (.ref p))) : Wo σ env F H F (L2.upd H p o) := by
  obtain ⟨q, z, h1, g0, g1, g2, g3, g4⟩ := S.own hi
  rw [hp] at h1
  cases h1
  refine ⟨Ex.refl F, fun a v h n => ?_, fun a v h => ?_, fun _ _ _ h => h, fun a h => ?_⟩
  · have ne : a ≠ p := fun z => n ⟨i, t, u, hi, by rw [hp, z]⟩
    rw [upd_ne ne]
    exact h
  · rw [upd_ne (ne_of_none h g1)]
    exact S.sub a v h
  · by_cases z : a = p
    · subst z
      rw [upd_same] at h
      cases h
    · rw [upd_ne z] at h
      exact h
/-- slot i gets data -/
theorem Sm.setD (S : Sm P w K F0 H0 F H σ env) {i : Nat} {d : Dt} {v : V} (r : Rp K F d v) : Sm P w K F0 H0 F H (σ.set i (some v)) (env.set i (.d d)) :=
  ⟨S.e0, S.g, by simp [S.len], fun j s e => by
    rcases get_set e with ⟨rfl, rfl, l⟩ | ⟨ne, e⟩
    · exact ⟨some v, set_same (by rw [S.len]; exact l), v, rfl, r⟩
    · rw [set_ne ne]
      exact S.sl j s e, fun a b t1 t2 u1 u2 p ne e1 e2 h => by
    rcases get_set e1 with ⟨_, z, _⟩ | ⟨n1, e1⟩
    · cases z
    · rcases get_set e2 with ⟨_, z, _⟩ | ⟨n2, e2⟩
      · cases z
      · rw [set_ne n1] at h
        rw [set_ne n2]
        exact S.df a b t1 t2 u1 u2 p ne e1 e2 h⟩
theorem Sm.setU (S : Sm P w K F0 H0 F H σ env) (i : Nat) : Sm P w K F0 H0 F H (σ.set i none) (env.set i .u) :=
  ⟨S.e0, S.g, by simp [S.len], fun j s e => by
    rcases get_set e with ⟨rfl, rfl, l⟩ | ⟨ne, e⟩
    · exact ⟨none, set_same (by rw [S.len]; exact l), rfl⟩
    · rw [set_ne ne]
      exact S.sl j s e, fun a b t1 t2 u1 u2 p ne e1 e2 h => by
    rcases get_set e1 with ⟨_, z, _⟩ | ⟨n1, e1⟩
    · cases z
    · rcases get_set e2 with ⟨_, z, _⟩ | ⟨n2, e2⟩
      · cases z
      · rw [set_ne n1] at h
        rw [set_ne n2]
        exact S.df a b t1 t2 u1 u2 p ne e1 e2 h⟩
/-- slot i gets a new thing of its own -/
theorem Sm.setO (S : Sm P w K F0 H0 F H σ env) {i : Nat} {u : Ow} {p : Addr} {o : HO} (hF : F p = none) (h0 : H0 p = none) (hp : H p = some o) (r : OwOk P w K F p u o) (hn : ¬ Own σ env p) :
    Sm P w K F0 H0 F H (σ.set i (some (.ref p))) (env.set i (.ow none u)) :=
  ⟨S.e0, S.g, by simp [S.len], fun j s e => by
    rcases get_set e with ⟨rfl, rfl, l⟩ | ⟨ne, e⟩
    · exact ⟨some (.ref p), set_same (by rw [S.len]; exact l), p, o, rfl, (fun _ z => nomatch z), hF, h0, hp, r⟩
    · rw [set_ne ne]
      exact S.sl j s e, fun a b t1 t2 u1 u2 q ne e1 e2 h => by
    rcases get_set e1 with ⟨ra, z1, _⟩ | ⟨n1, e1⟩
    · rcases get_set e2 with ⟨rb, z2, _⟩ | ⟨n2, e2⟩
      · exact absurd (ra.symm.trans rb) ne
      · subst ra
        rw [set_ne n2]
        have l : i < σ.length := by
          rw [S.len]
          exact (by assumption)
        rw [set_same l] at h
        cases h
        exact fun z => hn ⟨b, t2, u2, e2, z⟩
    · rcases get_set e2 with ⟨rb, z2, l⟩ | ⟨n2, e2⟩
      · subst rb
        rw [set_ne n1] at h
        intro q2
        rw [set_same (by rw [S.len]; exact l)] at q2
        cases q2
        exact hn ⟨a, t1, u1, e1, h⟩
      · rw [set_ne n1] at h
        rw [set_ne n2]
        exact S.df a b t1 t2 u1 u2 q ne e1 e2 h⟩
/-- what an own thing is as data -/
def Ow.dt : Ow → Option Dt
  | .lst ds => some (.lst ds)
  | .dic ks ds => some (.dic ks ds)
  | .dit ks ds => some (.dit ks ds)
  | .ins C fs ds => some (.obj C fs ds)
  | .set _ _ => none
theorem OwOk.rp {a : Addr} {u : Ow} {o : HO} {d : Dt} (h : OwOk P w K F a u o) (e : u.dt = some d) (hF : F a = some o) : Rp K F d (.ref a) := by
  cases u <;> cases e
  · obtain ⟨vs, rfl, r⟩ := h
    exact ⟨a, vs, rfl, SqL.of hF, r⟩
  · obtain ⟨vs, rfl, l, r⟩ := h
    exact ⟨a, vs, rfl, hF, l, r⟩
  · obtain ⟨vs, rfl, l, r⟩ := h
    exact ⟨a, vs, rfl, hF, l, r⟩
  · obtain ⟨dx, vs, rfl, l, r⟩ := h
    exact ⟨a, dx, vs, rfl, hF, l, r⟩
/-- the own thing in slot i becomes data -/
theorem Sm.freeze (S : Sm P w K F0 H0 F H σ env) {i : Nat} {t : Option Addr} {u : Ow} {d : Dt} (h : env[i]? = some (.ow t u)) (hd : u.dt = some d) :
    ∃ p o, σ[i]? = some (some (.ref p)) ∧ F p = none ∧ H p = some o ∧ OwOk P w K F p u o ∧ Rp K (L2.upd F p o) d (.ref p) ∧ Sm P w K F0 H0 (L2.upd F p o) H σ (env.set i (.d d)) := by
  obtain ⟨p, o, h1, g0, g1, g2, g3, g4⟩ := S.own h
  have ex : Ex F (L2.upd F p o) := Ex.new g1
  have rp : Rp K (L2.upd F p o) d (.ref p) := (g4.mono ex).rp hd upd_same
  refine ⟨p, o, h1, g1, g3, g4, rp, S.e0, S.g.give S.e0 g2 g3, by simp [S.len], fun j s e => ?_, fun a b t1 t2 u1 u2 q ne e1 e2 h => ?_⟩
  · rcases get_set e with ⟨rfl, rfl, l⟩ | ⟨ne, e⟩
    · exact ⟨_, h1, .ref p, rfl, rp⟩
    · obtain ⟨v, k1, k2⟩ := S.sl j s e
      refine ⟨v, k1, ?_⟩
      cases s with
      | x => trivial
      | u => exact k2
      | d d =>
        obtain ⟨y, e, r⟩ := k2
        exact ⟨y, e, r.mono ex⟩
      | ex a od e => exact ⟨k2.1, k2.2.mono ex⟩
      | ow t2 u2 =>
        obtain ⟨q, z, eq, f0, f1, f2, f3, f4⟩ := k2
        have nq : q ≠ p := fun z => S.df i j t t2 u u2 p ne h e h1 (by rw [k1, eq, z])
        exact ⟨q, z, eq, f0, by rw [upd_ne nq]; exact f1, f2, f3, f4.mono ex⟩
  · rcases get_set e1 with ⟨_, z, _⟩ | ⟨n1, e1⟩
    · cases z
    · rcases get_set e2 with ⟨_, z, _⟩ | ⟨n2, e2⟩
      · cases z
      · exact S.df a b t1 t2 u1 u2 q ne e1 e2 h
/-- forgetting -/
def Le (a b : En) : Prop := a.length = b.length ∧ ∀ (i : Nat) (s : Sl), b[i]? = some s → s = .x ∨ a[i]? = some s
theorem Le.refl (a : En) : Le a a := ⟨rfl, fun _ _ h => .inr h⟩
theorem Le.nil : Le [] [] := Le.refl _
theorem Le.x {a b : En} {s : Sl} (h : Le a b) : Le (s :: a) (.x :: b) := ⟨by simp [h.1], fun i t e => by
  cases i with
  | zero => exact .inl (by simpa using e.symm)
  | succ i => exact h.2 i t (by simpa using e)⟩
theorem Le.s {a b : En} {s : Sl} (h : Le a b) : Le (s :: a) (s :: b) := ⟨by simp [h.1], fun i t e => by
  cases i with
  | zero => exact .inr (by simpa using e)
  | succ i => exact h.2 i t (by simpa using e)⟩
theorem Sm.le (S : Sm P w K F0 H0 F H σ env) (l : Le env env1) : Sm P w K F0 H0 F H σ env1 :=
  ⟨S.e0, S.g, S.len.trans l.1, fun i s e => by
    rcases l.2 i s e with rfl | z
    · have hi : i < σ.length := by
        rw [S.len, l.1]
        exact (List.getElem?_eq_some_iff.mp e).1
      exact ⟨σ[i], by simp [hi], trivial⟩
    · exact S.sl i s z, fun a b t1 t2 u1 u2 p ne e1 e2 h => by
    rcases l.2 a _ e1 with z | e1
    · cases z
    · rcases l.2 b _ e2 with z | e2
      · cases z
      · exact S.df a b t1 t2 u1 u2 p ne e1 e2 h⟩
end
end Qw

set_option maxHeartbeats 1000000
/-! ### judgements of expressions -/
namespace Qw
open PySem PySem.Spec PyProof.Rows L2 Evl
open Pw (Dt Rp RpL Wk none_sub get_set set_same set_ne R2d R1d RLd RLn Kq KqL truD isEmpty_rp flatD fl py pyL)
section
variable (P : Program) (w : World) (K : PySem.W.Frag)
/-- te gives d, and leaves the slots as env' says -/
def Ee (te : TE) (env : En) (d : Dt) (env' : En) : Prop := Sh env env' ∧ ∀ F0 H0 F H σ, Sm P w K F0 H0 F H σ env → ∀ Q : VK, (∀ v F' H', Wo σ env F H F' H' → Sm P w K F0 H0 F' H' σ env' → Rp K F' d v → Q v H') → te σ H Q
def Te (tt : TT) (env : En) (b : Bool) (env' : En) : Prop := Sh env env' ∧ ∀ F0 H0 F H σ, Sm P w K F0 H0 F H σ env → ∀ Q : Bool → Hp → Prop, (∀ F' H', Wo σ env F H F' H' → Sm P w K F0 H0 F' H' σ env' → Q b H') → tt σ H Q
def EeA (ta : TA) (env : En) (ds : List Dt) (env' : En) : Prop := Sh env env' ∧ ∀ F0 H0 F H σ, Sm P w K F0 H0 F H σ env → ∀ Q : List V → Hp → Prop, (∀ vs F' H', Wo σ env F H F' H' → Sm P w K F0 H0 F' H' σ env' → RpL K F' ds vs → Q vs H') → ta σ H Q
/-- a new thing of one's own -/
def EnO (te : TE) (env : En) (u : Ow) (env' : En) : Prop := Sh env env' ∧ ∀ F0 H0 F H σ, Sm P w K F0 H0 F H σ env → ∀ Q : VK, (∀ p o F' H', Wo σ env F H F' H' → Sm P w K F0 H0 F' H' σ env' → H p = none → F' p = none → H' p = some o → OwOk P w K F' p u o → Q (.ref p) H') → te σ H Q
abbrev EnL (te : TE) (env : En) (ds : List Dt) (env' : En) : Prop := EnO P w K te env (.lst ds) env'
def Oo (to : TO) (env : En) (o : Option Int) (env' : En) : Prop := Sh env env' ∧ ∀ F0 H0 F H σ, Sm P w K F0 H0 F H σ env → ∀ Q : Option Int → Hp → Prop, (∀ F' H', Wo σ env F H F' H' → Sm P w K F0 H0 F' H' σ env' → Q o H') → to σ H Q
/-- an operation that gives a new thing -/
def RLo (r : List V → Hp → VK → Prop) (ds : List Dt) (u : Ow) : Prop := ∀ F H vs, Ex F H → RpL K F ds vs → ∀ Q : VK, (∀ p o F' H', Wk F H F' H' → H p = none → F' p = none → H' p = some o → OwOk P w K F' p u o → Q (.ref p) H') → r vs H Q
end
section
variable {P : Program} {w : World} {K : PySem.W.Frag} {env env1 env2 env3 env4 : En} {ta tb te tc : TE} {t u : TT} {d e z : Dt} {r r' : R2}
theorem Ee.nw (h : ∀ F0 H0 F H σ, Sm P w K F0 H0 F H σ env → ∀ Q : VK, Kq K F H d Q → te σ H Q) : Ee P w K te env d env := ⟨Sh.refl, fun F0 H0 F H σ S Q q => h F0 H0 F H σ S Q fun v F' H' k r => q v F' H' (.of k) (S.wk k) r⟩
theorem ee_var {i : Nat} (h : env[i]? = some (.d d) := by rfl) : Ee P w K (tVar i) env d env := .nw fun F0 H0 F H σ S Q q => by
  obtain ⟨v, h1, y, rfl, r⟩ := S.sl i _ h
  exact ⟨y, h1, q y F H (Wk.refl S.sub) r⟩
theorem ee_c {v : V} (h : ∀ F, Rp K F d v) : Ee P w K (tC v) env d env := .nw fun F0 H0 F H σ S Q q => q v F H (Wk.refl S.sub) (h F)
theorem ee_int {i : Int} : Ee P w K (tC (.int i)) env (.int i) env := ee_c fun _ => rfl
theorem ee_bl {b : Bool} : Ee P w K (tC (.bl b)) env (.bl b) env := ee_c fun _ => rfl
theorem ee_str {x : Str} : Ee P w K (tC (.str x)) env (.str x) env := ee_c fun _ => rfl
theorem ee_non : Ee P w K (tC .non) env .non env := ee_c fun _ => rfl
theorem ee_ty {n : String} : Ee P w K (tC (.ty n)) env (.ty n) env := ee_c fun _ => rfl
theorem ee_adr {a : Addr} : Ee P w K (tC (.ref a)) env (.adr a) env := ee_c fun _ => rfl
theorem ee_is (h : Ee P w K te env d env1) (e' : d = e) : Ee P w K te env e env1 := e' ▸ h
theorem te_is {b c : Bool} (h : Te P w K t env b env1) (e' : b = c) : Te P w K t env c env1 := e' ▸ h
theorem ee_op (ha : Ee P w K ta env d env1) (hb : Ee P w K tb env1 e env2) (hr : R2d K r d e z) : Ee P w K (tOp r ta tb) env z env2 := ⟨ha.1.trans hb.1, fun F0 H0 F H σ S Q q =>
  ha.2 F0 H0 F H σ S _ fun x F1 H1 w1 S1 r1 => hb.2 F0 H0 F1 H1 σ S1 _ fun y F2 H2 w2 S2 r2 => hr F2 H2 x y S2.sub (r1.mono w2.f) r2 Q fun v F3 H3 w3 r3 => q v F3 H3 (w1.trans ha.1 (w2.trans hb.1 (.of w3))) (S2.wk w3) r3⟩
theorem ee_un {r : V → Hp → VK → Prop} (ha : Ee P w K ta env d env1) (hr : R1d K r d z) : Ee P w K (tUn r ta) env z env1 := ⟨ha.1, fun F0 H0 F H σ S Q q =>
  ha.2 F0 H0 F H σ S _ fun x F1 H1 w1 S1 r1 => hr F1 H1 x S1.sub r1 Q fun v F3 H3 w3 r3 => q v F3 H3 (w1.trans ha.1 (.of w3)) (S1.wk w3) r3⟩
theorem ea_nil : EeA P w K tNil env [] env := ⟨Sh.refl, fun F0 H0 F H σ S Q q => q [] F H (.refl S.sub) S rfl⟩
theorem ea_cons {tr : TA} {ds : List Dt} (h : Ee P w K te env d env1) (hr : EeA P w K tr env1 ds env2) : EeA P w K (tCons te tr) env (d :: ds) env2 := ⟨h.1.trans hr.1, fun F0 H0 F H σ S Q q =>
  h.2 F0 H0 F H σ S _ fun x F1 H1 w1 S1 r1 => hr.2 F0 H0 F1 H1 σ S1 _ fun vs F2 H2 w2 S2 r2 => q (x :: vs) F2 H2 (w1.trans h.1 w2) S2 ⟨x, vs, rfl, r1.mono w2.f, r2⟩⟩
/-- *xs in a display or a call -/
theorem ea_starL {tr : TA} {ds es : List Dt} (h : Ee P w K te env (.lst ds) env1) (hr : EeA P w K tr env1 es env2) : EeA P w K (StX.tStar K te tr) env (ds ++ es) env2 := ⟨h.1.trans hr.1, fun F0 H0 F H σ S Q q =>
  h.2 F0 H0 F H σ S _ fun x F1 H1 w1 S1 ⟨a, vs, e, s, r1⟩ => ⟨a, vs, e, .inr (ex_l S1.sub s), hr.2 F0 H0 F1 H1 σ S1 _ fun us F2 H2 w2 S2 r2 => q (vs ++ us) F2 H2 (w1.trans h.1 w2) S2 (RpL.append (r1.mono w2.f) r2)⟩⟩
theorem ea_starT {tr : TA} {ds es : List Dt} (h : Ee P w K te env (.tup ds) env1) (hr : EeA P w K tr env1 es env2) : EeA P w K (StX.tStar K te tr) env (ds ++ es) env2 := ⟨h.1.trans hr.1, fun F0 H0 F H σ S Q q =>
  h.2 F0 H0 F H σ S _ fun x F1 H1 w1 S1 ⟨a, vs, e, s, r1⟩ => ⟨a, vs, e, .inl (ex_t S1.sub s), hr.2 F0 H0 F1 H1 σ S1 _ fun us F2 H2 w2 S2 r2 => q (vs ++ us) F2 H2 (w1.trans h.1 w2) S2 (RpL.append (r1.mono w2.f) r2)⟩⟩
theorem ee_cb {r : List V → Hp → VK → Prop} {ta : TA} {ds : List Dt} (h : EeA P w K ta env ds env1) (hr : RLd K r ds z) : Ee P w K (tCB r ta) env z env1 := ⟨h.1, fun F0 H0 F H σ S Q q =>
  h.2 F0 H0 F H σ S _ fun vs F1 H1 w1 S1 r1 => hr F1 H1 vs S1.sub r1 Q fun v F3 H3 w3 r3 => q v F3 H3 (w1.trans h.1 (.of w3)) (S1.wk w3) r3⟩
theorem eo_cb {r : List V → Hp → VK → Prop} {ta : TA} {ds : List Dt} {o : Ow} (h : EeA P w K ta env ds env1) (hr : RLo P w K r ds o) : EnO P w K (tCB r ta) env o env1 := ⟨h.1, fun F0 H0 F H σ S Q q =>
  h.2 F0 H0 F H σ S _ fun vs F1 H1 w1 S1 r1 => hr F1 H1 vs S1.sub r1 Q fun p ho F3 H3 w3 n1 n2 h3 r3 => q p ho F3 H3 (w1.trans h.1 (.of w3)) (S1.wk w3) (w1.b p n1) n2 h3 r3⟩
theorem rlo_of {r : List V → Hp → VK → Prop} {ds es : List Dt} (h : RLn K r ds es) : RLo P w K r ds (.lst es) := fun F H vs s rp Q q => h F H vs s rp Q fun p us F' H' k n1 n2 e r => q p _ F' H' k n1 n2 e ⟨us, rfl, r⟩
theorem en_cb {r : List V → Hp → VK → Prop} {ta : TA} {ds es : List Dt} (h : EeA P w K ta env ds env1) (hr : RLn K r ds es) : EnL P w K (tCB r ta) env es env1 := eo_cb h (rlo_of hr)
/-- a new thing as data -/
theorem Sm.give {F0 H0 F H : Hp} {σ : L2.St} (S : Sm P w K F0 H0 F H σ env) {p : Addr} {o : HO} (n1 : F p = none) (n2 : H0 p = none) (h : H p = some o) (no : ¬ Own σ env p) : Sm P w K F0 H0 (L2.upd F p o) H σ env :=
  ⟨S.e0, S.g.give S.e0 n2 h, S.len, fun i s e => by
    obtain ⟨v, k1, k2⟩ := S.sl i s e
    refine ⟨v, k1, ?_⟩
    cases s with
    | x => trivial
    | u => exact k2
    | d d =>
      obtain ⟨y, e, r⟩ := k2
      exact ⟨y, e, r.mono (Ex.new n1)⟩
    | ex a od e => exact ⟨k2.1, k2.2.mono (Ex.new n1)⟩
    | ow t2 u2 =>
      obtain ⟨q, z, eq, f0, f1, f2, f3, f4⟩ := k2
      have nq : q ≠ p := fun z => no ⟨i, t2, u2, e, by rw [k1, eq, z]⟩
      exact ⟨q, z, eq, f0, by rw [upd_ne nq]; exact f1, f2, f3, f4.mono (Ex.new n1)⟩, S.df⟩
theorem Wo.give {F H F' H' : Hp} {σ : L2.St} (k : Wo σ env F H F' H') {p : Addr} {o : HO} (n0 : H p = none) (n1 : F' p = none) (h : H' p = some o) : Wo σ env F H (L2.upd F' p o) H' :=
  ⟨fun a v e => by
    rw [upd_ne (ne_of_none (k.f a v e) n1)]
    exact k.f a v e, k.h, fun a v e => by
    by_cases z : a = p
    · subst z
      rw [upd_same] at e
      rw [h, ← e]
    · rw [upd_ne z] at e
      exact k.s a v e, fun a v e n => by
    rw [upd_ne (ne_of_none e n0)]
    exact k.n a v e n, k.b⟩
theorem eo_dt {o : Ow} (h : EnO P w K te env o env1) (hd : o.dt = some d := by rfl) : Ee P w K te env d env1 := ⟨h.1, fun F0 H0 F H σ S Q q =>
  h.2 F0 H0 F H σ S Q fun p ho F1 H1 k S1 n1 n2 h1 r1 => q (.ref p) (L2.upd F1 p ho) H1 (k.give n1 n2 h1) (S1.give n2 (none_sub S.g.h n1) h1 fun z => S.ownNew n1 (h.1.own z)) ((r1.mono (Ex.new n2)).rp hd upd_same)⟩
theorem ee_new {ds : List Dt} (h : EnL P w K te env ds env1) : Ee P w K te env (.lst ds) env1 := eo_dt h
theorem ee_tup {ta : TA} {ds : List Dt} (h : EeA P w K ta env ds env1) (hl : ds.length ≤ 100000 := by exact Nat.le_of_ble_eq_true rfl) : Ee P w K (tTup ta) env (.tup ds) env1 := ⟨h.1, fun F0 H0 F H σ S Q q =>
  h.2 F0 H0 F H σ S _ fun vs F1 H1 w1 S1 r1 => ⟨sz_of (by rw [← r1.length]; exact hl), fun p hp => q (.ref p) (L2.upd F1 p (.tup vs)) (L2.upd H1 p (.tup vs)) (w1.trans h.1 (.of (Wk.new S1.sub _ hp))) (S1.wk (Wk.new S1.sub _ hp)) ⟨p, vs, rfl, SqT.of upd_same, r1.mono (Ex.new (none_sub S1.sub hp))⟩⟩⟩
theorem en_lst {ta : TA} {ds : List Dt} (h : EeA P w K ta env ds env1) (hl : ds.length ≤ 100000 := by exact Nat.le_of_ble_eq_true rfl) : EnL P w K (tLst ta) env ds env1 := ⟨h.1, fun F0 H0 F H σ S Q q =>
  h.2 F0 H0 F H σ S _ fun vs F1 H1 w1 S1 r1 => ⟨sz_of (by rw [← r1.length]; exact hl), fun p hp => q p _ F1 (L2.upd H1 p (.lst vs)) (w1.trans h.1 (.of (Wk.own S1.sub _ hp))) (S1.wk (Wk.own S1.sub _ hp)) (w1.b p hp) (none_sub S1.sub hp) upd_same ⟨vs, rfl, r1⟩⟩⟩
theorem ee_lst {ta : TA} {ds : List Dt} (h : EeA P w K ta env ds env1) (hl : ds.length ≤ 100000 := by exact Nat.le_of_ble_eq_true rfl) : Ee P w K (tLst ta) env (.lst ds) env1 := ee_new (en_lst h hl)
theorem ee_chain {a b : Bool} {f : Dt} (ha : Ee P w K ta env d env1) (hb : Ee P w K tb env1 e env2) (hr : R2d K r d e (.bl a)) (hc : a = true → Ee P w K tc env2 f env2) (hr' : a = true → R2d K r' e f (.bl b)) : Ee P w K (tChain r r' ta tb tc) env (.bl (a && b)) env2 := ⟨ha.1.trans hb.1, fun F0 H0 F H σ S Q q =>
  ha.2 F0 H0 F H σ S _ fun x F1 H1 w1 S1 r1 => hb.2 F0 H0 F1 H1 σ S1 _ fun y F2 H2 w2 S2 r2 => hr F2 H2 x y S2.sub (r1.mono w2.f) r2 _ fun v F3 H3 w3 r3 => by
    refine ⟨a, r3, ?_⟩
    have w123 := w1.trans ha.1 (w2.trans hb.1 (.of (σ := σ) (env := env2) w3))
    cases a with
    | true =>
      show tc σ H3 _
      exact (hc rfl).2 F0 H0 F3 H3 σ (S2.wk w3) _ fun c F4 H4 w4 S4 r4 => hr' rfl F4 H4 y c S4.sub (r2.mono (w3.f.trans w4.f)) r4 Q fun v F5 H5 w5 r5 => q v F5 H5 (w123.trans (ha.1.trans hb.1) (w4.trans (hc rfl).1 (.of w5))) (S4.wk w5) r5
    | false =>
      show Q (.bl false) H3
      exact q _ F3 H3 w123 (S2.wk w3) rfl⟩
/-! ### tests -/
theorem te_test {b : Bool} (h : Ee P w K te env (.bl b) env1) : Te P w K (tTest te) env b env1 := ⟨h.1, fun F0 H0 F H σ S Q q => h.2 F0 H0 F H σ S _ fun v F1 H1 w1 S1 r1 => ⟨b, r1, q F1 H1 w1 S1⟩⟩
theorem te_B {b : Bool} (h : Ee P w K te env (.bl b) env1) : Te P w K (tB te) env b env1 := ⟨h.1, fun F0 H0 F H σ S Q q => h.2 F0 H0 F H σ S _ fun v F1 H1 w1 S1 r1 => ⟨b, r1, q F1 H1 w1 S1⟩⟩
theorem te_and {a b : Bool} (h1 : Te P w K t env a env1) (h2 : a = true → Te P w K u env1 b env1) : Te P w K (tAnd t u) env (a && b) env1 := ⟨h1.1, fun F0 H0 F H σ S Q q => h1.2 F0 H0 F H σ S _ fun F1 H1 w1 S1 => by
  cases a with
  | true =>
    show u σ H1 Q
    exact (h2 rfl).2 F0 H0 F1 H1 σ S1 Q fun F2 H2 w2 S2 => q F2 H2 (w1.trans h1.1 w2) S2
  | false =>
    show Q false H1
    exact q F1 H1 w1 S1⟩
theorem te_or {a b : Bool} (h1 : Te P w K t env a env1) (h2 : a = false → Te P w K u env1 b env1) : Te P w K (tOr t u) env (a || b) env1 := ⟨h1.1, fun F0 H0 F H σ S Q q => h1.2 F0 H0 F H σ S _ fun F1 H1 w1 S1 => by
  cases a with
  | false =>
    show u σ H1 Q
    exact (h2 rfl).2 F0 H0 F1 H1 σ S1 Q fun F2 H2 w2 S2 => q F2 H2 (w1.trans h1.1 w2) S2
  | true =>
    show Q true H1
    exact q F1 H1 w1 S1⟩
/-- the second part asked, and it may change what is one's own -/
theorem te_andM {b : Bool} (h1 : Te P w K t env true env1) (h2 : Te P w K u env1 b env2) : Te P w K (tAnd t u) env b env2 := ⟨h1.1.trans h2.1, fun F0 H0 F H σ S Q q => h1.2 F0 H0 F H σ S _ fun F1 H1 w1 S1 => by
  show u σ H1 Q
  exact h2.2 F0 H0 F1 H1 σ S1 Q fun F2 H2 w2 S2 => q F2 H2 (w1.trans h1.1 w2) S2⟩
theorem te_orM {b : Bool} (h1 : Te P w K t env false env1) (h2 : Te P w K u env1 b env2) : Te P w K (tOr t u) env b env2 := ⟨h1.1.trans h2.1, fun F0 H0 F H σ S Q q => h1.2 F0 H0 F H σ S _ fun F1 H1 w1 S1 => by
  show u σ H1 Q
  exact h2.2 F0 H0 F1 H1 σ S1 Q fun F2 H2 w2 S2 => q F2 H2 (w1.trans h1.1 w2) S2⟩
theorem te_not {a : Bool} (h : Te P w K t env a env1) : Te P w K (tNot t) env (!a) env1 := ⟨h.1, fun F0 H0 F H σ S Q q => h.2 F0 H0 F H σ S _ fun F1 H1 w1 S1 => q F1 H1 w1 S1⟩
theorem ee_and {a b : Bool} (h1 : Ee P w K ta env (.bl a) env1) (h2 : a = true → Ee P w K tb env1 (.bl b) env1) : Ee P w K (tAndV ta tb) env (.bl (a && b)) env1 := ⟨h1.1, fun F0 H0 F H σ S Q q => h1.2 F0 H0 F H σ S _ fun v F1 H1 w1 S1 r1 => ⟨a, r1, by
  cases a with
  | true =>
    show tb σ H1 Q
    exact (h2 rfl).2 F0 H0 F1 H1 σ S1 Q fun v F2 H2 w2 S2 r2 => q v F2 H2 (w1.trans h1.1 w2) S2 r2
  | false =>
    show Q (.bl false) H1
    exact q _ F1 H1 w1 S1 rfl⟩⟩
theorem ee_or {a b : Bool} (h1 : Ee P w K ta env (.bl a) env1) (h2 : a = false → Ee P w K tb env1 (.bl b) env1) : Ee P w K (tOrV ta tb) env (.bl (a || b)) env1 := ⟨h1.1, fun F0 H0 F H σ S Q q => h1.2 F0 H0 F H σ S _ fun v F1 H1 w1 S1 r1 => ⟨a, r1, by
  cases a with
  | false =>
    show tb σ H1 Q
    exact (h2 rfl).2 F0 H0 F1 H1 σ S1 Q fun v F2 H2 w2 S2 r2 => q v F2 H2 (w1.trans h1.1 w2) S2 r2
  | true =>
    show Q (.bl true) H1
    exact q _ F1 H1 w1 S1 rfl⟩⟩
theorem ee_not {a : Bool} (h1 : Ee P w K ta env (.bl a) env1) : Ee P w K (tNotV ta) env (.bl (!a)) env1 := ⟨h1.1, fun F0 H0 F H σ S Q q => h1.2 F0 H0 F H σ S _ fun v F1 H1 w1 S1 r1 => ⟨a, r1, q _ F1 H1 w1 S1 rfl⟩⟩
theorem ee_if {b : Bool} (h : Te P w K t env b env1) (h1 : b = true → Ee P w K ta env1 d env2) (h2 : b = false → Ee P w K tb env1 d env2) : Ee P w K (tIf t ta tb) env d env2 := ⟨h.1.trans (by
  cases b with
  | true => exact (h1 rfl).1
  | false => exact (h2 rfl).1), fun F0 H0 F H σ S Q q => h.2 F0 H0 F H σ S _ fun F1 H1 w1 S1 => by
  cases b with
  | true =>
    show ta σ H1 Q
    exact (h1 rfl).2 F0 H0 F1 H1 σ S1 Q fun v F2 H2 w2 S2 r2 => q v F2 H2 (w1.trans h.1 w2) S2 r2
  | false =>
    show tb σ H1 Q
    exact (h2 rfl).2 F0 H0 F1 H1 σ S1 Q fun v F2 H2 w2 S2 r2 => q v F2 H2 (w1.trans h.1 w2) S2 r2⟩
theorem te_tru {b : Bool} (h : Ee P w K te env d env1) (hb : truD d = some b) : Te P w K (fun σ H Q => te σ H fun x H' => ∃ k, TruV K x H' k ∧ Q k H') env b env1 := ⟨h.1, fun F0 H0 F H σ S Q q => h.2 F0 H0 F H σ S _ fun v F1 H1 w1 S1 r1 => by
  refine ⟨b, ?_, q F1 H1 w1 S1⟩
  cases d <;> simp only [truD, Option.some.injEq, reduceCtorEq] at hb
  · cases r1; exact hb.symm
  · cases r1; exact hb.symm
  · cases r1; exact hb.symm
  · obtain ⟨a, vs, rfl, h1, h2⟩ := r1
    exact .inr (.inl ⟨vs, ex_t S1.sub h1, by rw [← hb, isEmpty_rp h2]⟩)
  · obtain ⟨a, vs, rfl, h1, h2⟩ := r1
    exact .inl ⟨vs, ex_l S1.sub h1, by rw [← hb, isEmpty_rp h2]⟩⟩
theorem oo_none : Oo P w K tNoPart env none env := ⟨Sh.refl, fun F0 H0 F H σ S Q q => q F H (.refl S.sub) S⟩
theorem oo_some {i : Int} (h : Ee P w K te env (.int i) env1) : Oo P w K (tPart te) env (some i) env1 := ⟨h.1, fun F0 H0 F H σ S Q q => h.2 F0 H0 F H σ S _ fun v F1 H1 k S1 r => ⟨i, r, q F1 H1 k S1⟩⟩
end
end Qw

set_option maxHeartbeats 1000000
/-! ### expressions that change nothing -/
namespace Qw
open PySem PySem.Spec PyProof.Rows L2 Evl
open Pw (Dt Rp RpL Wk none_sub get_set set_same set_ne R2d R1d RLd RLn Kq KqL truD isEmpty_rp flatD fl py pyL)
section
variable (P : Program) (w : World) (K : PySem.W.Frag)
def Ep (te : TE) (env : En) (d : Dt) : Prop := ∀ F0 H0 F H σ, Sm P w K F0 H0 F H σ env → ∀ Q : VK, Kq K F H d Q → te σ H Q
def Tp (tt : TT) (env : En) (b : Bool) : Prop := ∀ F0 H0 F H σ, Sm P w K F0 H0 F H σ env → ∀ Q : Bool → Hp → Prop, (∀ F' H', Wk F H F' H' → Q b H') → tt σ H Q
def EpA (ta : TA) (env : En) (ds : List Dt) : Prop := ∀ F0 H0 F H σ, Sm P w K F0 H0 F H σ env → ∀ Q : List V → Hp → Prop, KqL K F H ds Q → ta σ H Q
def EpO (te : TE) (env : En) (u : Ow) : Prop := ∀ F0 H0 F H σ, Sm P w K F0 H0 F H σ env → ∀ Q : VK, (∀ p o F' H', Wk F H F' H' → H p = none → F' p = none → H' p = some o → OwOk P w K F' p u o → Q (.ref p) H') → te σ H Q
def EpN (te : TE) (env : En) (ds : List Dt) : Prop := ∀ F0 H0 F H σ, Sm P w K F0 H0 F H σ env → ∀ Q : VK, (∀ p vs F' H', Wk F H F' H' → H p = none → F' p = none → H' p = some (.lst vs) → RpL K F' ds vs → Q (.ref p) H') → te σ H Q
def Op (to : TO) (env : En) (o : Option Int) : Prop := ∀ F0 H0 F H σ, Sm P w K F0 H0 F H σ env → ∀ Q : Option Int → Hp → Prop, (∀ F' H', Wk F H F' H' → Q o H') → to σ H Q
end
section
variable {P : Program} {w : World} {K : PySem.W.Frag} {env env1 env2 : En} {ta tb te tc : TE} {tl th : TO} {t u : TT} {d e z : Dt} {r r' : R2}
theorem ep_var {i : Nat} (h : env[i]? = some (.d d) := by rfl) : Ep P w K (tVar i) env d := fun F0 H0 F H σ S Q q => by
  obtain ⟨v, h1, w, rfl, r⟩ := S.sl i _ h
  exact ⟨w, h1, q w F H (Wk.refl S.sub) r⟩
theorem ep_c {v : V} (h : ∀ F, Rp K F d v) : Ep P w K (tC v) env d := fun F0 H0 F H σ S Q q => q v F H (Wk.refl S.sub) (h F)
theorem ep_int {i : Int} : Ep P w K (tC (.int i)) env (.int i) := ep_c fun _ => rfl
theorem ep_bl {b : Bool} : Ep P w K (tC (.bl b)) env (.bl b) := ep_c fun _ => rfl
theorem ep_str {x : Str} : Ep P w K (tC (.str x)) env (.str x) := ep_c fun _ => rfl
theorem ep_non : Ep P w K (tC .non) env .non := ep_c fun _ => rfl
theorem ep_ty {n : String} : Ep P w K (tC (.ty n)) env (.ty n) := ep_c fun _ => rfl
theorem ep_adr {a : Addr} : Ep P w K (tC (.ref a)) env (.adr a) := ep_c fun _ => rfl
theorem ep_is (h : Ep P w K te env d) (e' : d = e) : Ep P w K te env e := by
  rw [← e']
  exact h
theorem tp_is {b c : Bool} (h : Tp P w K t env b) (e' : b = c) : Tp P w K t env c := by
  rw [← e']
  exact h
theorem ep_op (ha : Ep P w K ta env d) (hb : Ep P w K tb env e) (hr : R2d K r d e z) : Ep P w K (tOp r ta tb) env z := fun F0 H0 F H σ S Q q =>
  ha F0 H0 F H σ S _ fun x F1 H1 w1 r1 => hb F0 H0 F1 H1 σ (S.wk w1) _ fun y F2 H2 w2 r2 => hr F2 H2 x y w2.s (r1.mono w2.f) r2 Q fun v F3 H3 w3 r3 => q v F3 H3 ((w1.trans w2).trans w3) r3
theorem ep_un {r : V → Hp → VK → Prop} (ha : Ep P w K ta env d) (hr : R1d K r d z) : Ep P w K (tUn r ta) env z := fun F0 H0 F H σ S Q q =>
  ha F0 H0 F H σ S _ fun x F1 H1 w1 r1 => hr F1 H1 x w1.s r1 Q fun v F3 H3 w3 r3 => q v F3 H3 (w1.trans w3) r3
theorem ap_nil : EpA P w K tNil env [] := fun F0 H0 F H σ S Q q => q [] F H (Wk.refl S.sub) rfl
theorem ap_cons {tr : TA} {ds : List Dt} (h : Ep P w K te env d) (hr : EpA P w K tr env ds) : EpA P w K (tCons te tr) env (d :: ds) := fun F0 H0 F H σ S Q q =>
  h F0 H0 F H σ S _ fun x F1 H1 w1 r1 => hr F0 H0 F1 H1 σ (S.wk w1) _ fun vs F2 H2 w2 r2 => q (x :: vs) F2 H2 (w1.trans w2) ⟨x, vs, rfl, r1.mono w2.f, r2⟩
theorem ep_cb {r : List V → Hp → VK → Prop} {ta : TA} {ds : List Dt} (h : EpA P w K ta env ds) (hr : RLd K r ds z) : Ep P w K (tCB r ta) env z := fun F0 H0 F H σ S Q q =>
  h F0 H0 F H σ S _ fun vs F1 H1 w1 r1 => hr F1 H1 vs w1.s r1 Q fun v F3 H3 w3 r3 => q v F3 H3 (w1.trans w3) r3
theorem np_cb {r : List V → Hp → VK → Prop} {ta : TA} {ds es : List Dt} (h : EpA P w K ta env ds) (hr : RLn K r ds es) : EpN P w K (tCB r ta) env es := fun F0 H0 F H σ S Q q =>
  h F0 H0 F H σ S _ fun vs F1 H1 w1 r1 => hr F1 H1 vs w1.s r1 Q fun p us F3 H3 w3 n1 n2 h3 r3 => q p us F3 H3 (w1.trans w3) (fresh_back w1.h n1) n2 h3 r3
/-- a new list as data -/
theorem ep_new {ds : List Dt} (h : EpN P w K te env ds) : Ep P w K te env (.lst ds) := fun F0 H0 F H σ S Q q =>
  h F0 H0 F H σ S Q fun p vs F1 H1 w1 n1 n2 h1 r1 => q (.ref p) (L2.upd F1 p (.lst vs)) H1 (w1.give S.sub n1 h1) ⟨p, vs, rfl, SqL.of upd_same, r1.mono (Ex.new n2)⟩
theorem ep_tup {ta : TA} {ds : List Dt} (h : EpA P w K ta env ds) (hl : ds.length ≤ 100000 := by exact Nat.le_of_ble_eq_true rfl) : Ep P w K (tTup ta) env (.tup ds) := fun F0 H0 F H σ S Q q =>
  h F0 H0 F H σ S _ fun vs F1 H1 w1 r1 => ⟨sz_of (by rw [← r1.length]; exact hl), fun p hp => q (.ref p) (L2.upd F1 p (.tup vs)) (L2.upd H1 p (.tup vs)) (w1.trans (Wk.new w1.s _ hp)) ⟨p, vs, rfl, SqT.of upd_same, r1.mono (Ex.new (none_sub w1.s hp))⟩⟩
theorem np_lst {ta : TA} {ds : List Dt} (h : EpA P w K ta env ds) (hl : ds.length ≤ 100000 := by exact Nat.le_of_ble_eq_true rfl) : EpN P w K (tLst ta) env ds := fun F0 H0 F H σ S Q q =>
  h F0 H0 F H σ S _ fun vs F1 H1 w1 r1 => ⟨sz_of (by rw [← r1.length]; exact hl), fun p hp => q p vs F1 (L2.upd H1 p (.lst vs)) (w1.trans (Wk.own w1.s _ hp)) (fresh_back w1.h hp) (none_sub w1.s hp) upd_same r1⟩
theorem ep_lst {ta : TA} {ds : List Dt} (h : EpA P w K ta env ds) (hl : ds.length ≤ 100000 := by exact Nat.le_of_ble_eq_true rfl) : Ep P w K (tLst ta) env (.lst ds) := ep_new (np_lst h hl)
theorem ep_chain {a b : Bool} {f : Dt} (ha : Ep P w K ta env d) (hb : Ep P w K tb env e) (hr : R2d K r d e (.bl a)) (hc : a = true → Ep P w K tc env f) (hr' : a = true → R2d K r' e f (.bl b)) : Ep P w K (tChain r r' ta tb tc) env (.bl (a && b)) := fun F0 H0 F H σ S Q q =>
  ha F0 H0 F H σ S _ fun x F1 H1 w1 r1 => hb F0 H0 F1 H1 σ (S.wk w1) _ fun y F2 H2 w2 r2 => hr F2 H2 x y w2.s (r1.mono w2.f) r2 _ fun v F3 H3 w3 r3 => by
    refine ⟨a, r3, ?_⟩
    cases a with
    | true =>
      show tc σ H3 _
      exact hc rfl F0 H0 F3 H3 σ (((S.wk w1).wk w2).wk w3) _ fun c F4 H4 w4 r4 => hr' rfl F4 H4 y c w4.s (r2.mono (w3.f.trans w4.f)) r4 Q fun v F5 H5 w5 r5 => q v F5 H5 (((((w1.trans w2).trans w3)).trans w4).trans w5) r5
    | false =>
      show Q (.bl false) H3
      exact q _ F3 H3 ((w1.trans w2).trans w3) rfl

/-! ### tests -/
theorem tp_test {b : Bool} (h : Ep P w K te env (.bl b)) : Tp P w K (tTest te) env b := fun F0 H0 F H σ S Q q => h F0 H0 F H σ S _ fun v F1 H1 w1 r1 => ⟨b, r1, q F1 H1 w1⟩
theorem tp_B {b : Bool} (h : Ep P w K te env (.bl b)) : Tp P w K (tB te) env b := fun F0 H0 F H σ S Q q => h F0 H0 F H σ S _ fun v F1 H1 w1 r1 => ⟨b, r1, q F1 H1 w1⟩
theorem tp_and {a b : Bool} (h1 : Tp P w K t env a) (h2 : a = true → Tp P w K u env b) : Tp P w K (tAnd t u) env (a && b) := fun F0 H0 F H σ S Q q => h1 F0 H0 F H σ S _ fun F1 H1 w1 => by
  cases a with
  | true =>
    show u σ H1 Q
    exact h2 rfl F0 H0 F1 H1 σ (S.wk w1) Q fun F2 H2 w2 => q F2 H2 (w1.trans w2)
  | false =>
    show Q false H1
    exact q F1 H1 w1
theorem tp_or {a b : Bool} (h1 : Tp P w K t env a) (h2 : a = false → Tp P w K u env b) : Tp P w K (tOr t u) env (a || b) := fun F0 H0 F H σ S Q q => h1 F0 H0 F H σ S _ fun F1 H1 w1 => by
  cases a with
  | false =>
    show u σ H1 Q
    exact h2 rfl F0 H0 F1 H1 σ (S.wk w1) Q fun F2 H2 w2 => q F2 H2 (w1.trans w2)
  | true =>
    show Q true H1
    exact q F1 H1 w1
theorem tp_not {a : Bool} (h : Tp P w K t env a) : Tp P w K (tNot t) env (!a) := fun F0 H0 F H σ S Q q => h F0 H0 F H σ S _ fun F1 H1 w1 => q F1 H1 w1
theorem ep_and {a b : Bool} (h1 : Ep P w K ta env (.bl a)) (h2 : a = true → Ep P w K tb env (.bl b)) : Ep P w K (tAndV ta tb) env (.bl (a && b)) := fun F0 H0 F H σ S Q q => h1 F0 H0 F H σ S _ fun v F1 H1 w1 r1 => ⟨a, r1, by
  cases a with
  | true =>
    show tb σ H1 Q
    exact h2 rfl F0 H0 F1 H1 σ (S.wk w1) Q fun v F2 H2 w2 r2 => q v F2 H2 (w1.trans w2) r2
  | false =>
    show Q (.bl false) H1
    exact q _ F1 H1 w1 rfl⟩
theorem ep_or {a b : Bool} (h1 : Ep P w K ta env (.bl a)) (h2 : a = false → Ep P w K tb env (.bl b)) : Ep P w K (tOrV ta tb) env (.bl (a || b)) := fun F0 H0 F H σ S Q q => h1 F0 H0 F H σ S _ fun v F1 H1 w1 r1 => ⟨a, r1, by
  cases a with
  | false =>
    show tb σ H1 Q
    exact h2 rfl F0 H0 F1 H1 σ (S.wk w1) Q fun v F2 H2 w2 r2 => q v F2 H2 (w1.trans w2) r2
  | true =>
    show Q (.bl true) H1
    exact q _ F1 H1 w1 rfl⟩
theorem ep_not {a : Bool} (h1 : Ep P w K ta env (.bl a)) : Ep P w K (tNotV ta) env (.bl (!a)) := fun F0 H0 F H σ S Q q => h1 F0 H0 F H σ S _ fun v F1 H1 w1 r1 => ⟨a, r1, q _ F1 H1 w1 rfl⟩
theorem ep_if {b : Bool} (h : Tp P w K t env b) (h1 : b = true → Ep P w K ta env d) (h2 : b = false → Ep P w K tb env d) : Ep P w K (tIf t ta tb) env d := fun F0 H0 F H σ S Q q => h F0 H0 F H σ S _ fun F1 H1 w1 => by
  cases b with
  | true =>
    show ta σ H1 Q
    exact h1 rfl F0 H0 F1 H1 σ (S.wk w1) Q fun v F2 H2 w2 r2 => q v F2 H2 (w1.trans w2) r2
  | false =>
    show tb σ H1 Q
    exact h2 rfl F0 H0 F1 H1 σ (S.wk w1) Q fun v F2 H2 w2 r2 => q v F2 H2 (w1.trans w2) r2
theorem tp_tru {b : Bool} (h : Ep P w K te env d) (hb : truD d = some b) : Tp P w K (fun σ H Q => te σ H fun x H' => ∃ k, TruV K x H' k ∧ Q k H') env b := fun F0 H0 F H σ S Q q => h F0 H0 F H σ S _ fun v F1 H1 w1 r1 => by
  refine ⟨b, ?_, q F1 H1 w1⟩
  cases d <;> simp only [truD, Option.some.injEq, reduceCtorEq] at hb
  · cases r1; exact hb.symm
  · cases r1; exact hb.symm
  · cases r1; exact hb.symm
  · obtain ⟨a, vs, rfl, h1, h2⟩ := r1
    exact .inr (.inl ⟨vs, ex_t w1.s h1, by rw [← hb, isEmpty_rp h2]⟩)
  · obtain ⟨a, vs, rfl, h1, h2⟩ := r1
    exact .inl ⟨vs, ex_l w1.s h1, by rw [← hb, isEmpty_rp h2]⟩

theorem qo_none : Op P w K tNoPart env none := fun F0 H0 F H σ S Q q => q F H (Wk.refl S.sub)
theorem qo_some {i : Int} (h : Ep P w K te env (.int i)) : Op P w K (tPart te) env (some i) := fun F0 H0 F H σ S Q q => h F0 H0 F H σ S _ fun v F1 H1 w1 r => ⟨i, r, q F1 H1 w1⟩
theorem ep_slS {x : Str} {lo hi : Option Int} (h : Ep P w K te env (.str x)) (h1 : Op P w K tl env lo) (h2 : Op P w K th env hi) (hl : x.length ≤ 100000) : Ep P w K (tSl rSlS te tl th) env (.str (cutS x lo hi)) := fun F0 H0 F H σ S Q q =>
  h F0 H0 F H σ S _ fun v F1 H1 w r => h1 F0 H0 F1 H1 σ (S.wk w) _ fun F2 H2 w2 => h2 F0 H0 F2 H2 σ ((S.wk w).wk w2) _ fun F3 H3 w3 => ⟨x, r, sz_of hl, q _ F3 H3 ((w.trans w2).trans w3) rfl⟩
theorem np_slL {xs : List Dt} {lo hi : Option Int} (h : Ep P w K te env (.lst xs)) (h1 : Op P w K tl env lo) (h2 : Op P w K th env hi) : EpN P w K (tSl (rSlL K) te tl th) env ((xs.drop (HT.sIx xs.length 0 lo)).take (HT.sIx xs.length xs.length hi - HT.sIx xs.length 0 lo)) := fun F0 H0 F H σ S Q q =>
  h F0 H0 F H σ S _ fun v F1 H1 w r => h1 F0 H0 F1 H1 σ (S.wk w) _ fun F2 H2 w2 => h2 F0 H0 F2 H2 σ ((S.wk w).wk w2) _ fun F3 H3 w3 => by
    obtain ⟨a, vs, rfl, g1, g2⟩ := r
    refine ⟨a, vs, rfl, ex_l (w.s.trans (w2.h.trans w3.h)) g1, fun p hp => q p _ F3 _ (((w.trans w2).trans w3).trans (Wk.own w3.s _ hp)) (fresh_back ((w.trans w2).trans w3).h hp) (none_sub w3.s hp) upd_same ?_⟩
    unfold cutV
    rw [← g2.length]
    exact RpL.take _ (RpL.drop _ (g2.mono (w2.f.trans w3.f)))
theorem ap_starL {tr : TA} {ds es : List Dt} (h : Ep P w K te env (.lst ds)) (hr : EpA P w K tr env es) : EpA P w K (StX.tStar K te tr) env (ds ++ es) := fun F0 H0 F H σ S Q q =>
  h F0 H0 F H σ S _ fun x F1 H1 w1 ⟨a, vs, e, s, r1⟩ => ⟨a, vs, e, .inr (ex_l w1.s s), hr F0 H0 F1 H1 σ (S.wk w1) _ fun us F2 H2 w2 r2 => q (vs ++ us) F2 H2 (w1.trans w2) (RpL.append (r1.mono w2.f) r2)⟩
theorem ap_starT {tr : TA} {ds es : List Dt} (h : Ep P w K te env (.tup ds)) (hr : EpA P w K tr env es) : EpA P w K (StX.tStar K te tr) env (ds ++ es) := fun F0 H0 F H σ S Q q =>
  h F0 H0 F H σ S _ fun x F1 H1 w1 ⟨a, vs, e, s, r1⟩ => ⟨a, vs, e, .inl (ex_t w1.s s), hr F0 H0 F1 H1 σ (S.wk w1) _ fun us F2 H2 w2 r2 => q (vs ++ us) F2 H2 (w1.trans w2) (RpL.append (r1.mono w2.f) r2)⟩

theorem ee_p (h : Ep P w K te env d) : Ee P w K te env d env := .nw h
theorem te_p {b : Bool} (h : Tp P w K t env b) : Te P w K t env b env := ⟨Sh.refl, fun F0 H0 F H σ S Q q => h F0 H0 F H σ S Q fun F' H' k => q F' H' (.of k) (S.wk k)⟩
theorem ea_p {ta : TA} {ds : List Dt} (h : EpA P w K ta env ds) : EeA P w K ta env ds env := ⟨Sh.refl, fun F0 H0 F H σ S Q q => h F0 H0 F H σ S Q fun vs F' H' k r => q vs F' H' (.of k) (S.wk k) r⟩
theorem eo_p {o : Ow} (h : EpO P w K te env o) : EnO P w K te env o env := ⟨Sh.refl, fun F0 H0 F H σ S Q q => h F0 H0 F H σ S Q fun p o F' H' k n1 n2 h1 r => q p o F' H' (.of k) (S.wk k) n1 n2 h1 r⟩
theorem po_n {ds : List Dt} (h : EpN P w K te env ds) : EpO P w K te env (.lst ds) := fun F0 H0 F H σ S Q q => h F0 H0 F H σ S Q fun p vs F' H' k n1 n2 h1 r => q p _ F' H' k n1 n2 h1 ⟨vs, rfl, r⟩
theorem en_p {ds : List Dt} (h : EpN P w K te env ds) : EnL P w K te env ds env := eo_p (po_n h)
theorem oo_p {to : TO} {o : Option Int} (h : Op P w K to env o) : Oo P w K to env o env := ⟨Sh.refl, fun F0 H0 F H σ S Q q => h F0 H0 F H σ S Q fun F' H' k => q F' H' (.of k) (S.wk k)⟩
theorem po_cb {r : List V → Hp → VK → Prop} {ta : TA} {ds : List Dt} {o : Ow} (h : EpA P w K ta env ds) (hr : RLo P w K r ds o) : EpO P w K (tCB r ta) env o := fun F0 H0 F H σ S Q q =>
  h F0 H0 F H σ S _ fun vs F1 H1 w1 r1 => hr F1 H1 vs w1.s r1 Q fun p ho F3 H3 w3 n1 n2 h3 r3 => q p ho F3 H3 (w1.trans w3) (none_sub w1.h n1) n2 h3 r3
theorem po_dt {o : Ow} (h : EpO P w K te env o) (hd : o.dt = some d := by rfl) : Ep P w K te env d := fun F0 H0 F H σ S Q q =>
  h F0 H0 F H σ S Q fun p ho F1 H1 k n1 n2 h1 r1 => q (.ref p) (L2.upd F1 p ho) H1 (k.give S.sub n1 h1) ((r1.mono (Ex.new n2)).rp hd upd_same)
end
end Qw

set_option maxHeartbeats 1000000
/-! ### promises, statements, loops -/
namespace Qw
open PySem PySem.Spec PyProof.Rows L2 Evl
open Pw (Dt Rp RpL Wk none_sub get_set set_same set_ne R2d R1d RLd RLn Kq KqL truD isEmpty_rp flatD fl py pyL rangeD rangeD_len charsD wl_at Wl wl_range)
/-- what a def gives: data, a new thing, an exception -/
inductive Rs where
  | d (d : Dt) | o (u : Ow) | x (x : Xn)
def RsK (P : Program) (w : World) (K : PySem.W.Frag) (F H : Hp) (Q : VK) (E : XK) : Rs → Prop
  | .d d => Kq K F H d Q
  | .o u => ∀ p o F' H', Wk F H F' H' → H p = none → F' p = none → H' p = some o → OwOk P w K F' p u o → Q (.ref p) H'
  | .x x => ∀ od F' H', Wk F H F' H' → XnOk K F' x od → E (.ref x.C) od H'
def spR (P : Program) (w : World) (K : PySem.W.Frag) (R : List Dt → Rs → Prop) : Sp := fun vs H Q E => ∃ F ds r, Ex F H ∧ RpL K F ds vs ∧ R ds r ∧ RsK P w K F H Q E r
/-- a def that changes its first argument: R arguments-but-the-first, what it was, what is given, what it is then -/
def spM (P : Program) (w : World) (K : PySem.W.Frag) (R : Ow → List Dt → Dt → Ow → Prop) : Sp := fun vs H Q _ => ∃ F p vs' o u ds d u', vs = .ref p :: vs' ∧ Ex F H ∧ F p = none ∧ H p = some o ∧ OwOk P w K F p u o ∧ RpL K F ds vs' ∧ R u ds d u' ∧
  ∀ v F' H' o', Ex F F' → Ex F' H' → (∀ a z, a ≠ p → H a = some z → H' a = some z) → (∀ a z, H a = some z → F a = none → F' a = none) → (∀ a, H' a = none → H a = none) → H' p = some o' → OwOk P w K F' p u' o' → Rp K F' d v → Q v H'
inductive Out where
  | nx (e : En) | ct (e : En) | nc (e : En) | bk (e : En) | rt (d : Dt) | rte (d : Dt) (e : En) | ro (u : Ow) | rz (W : WX) (x : Xn) (e : En)
section
variable (P : Program) (w : World) (K : PySem.W.Frag)
def Po (F0 H0 F : Hp) (D : Ends) : Out → Prop
  | .nx e => ∀ F' H' σ', Ex F F' → Sm P w K F0 H0 F' H' σ' e → D.nx σ' H'
  | .ct e => ∀ F' H' σ', Ex F F' → Sm P w K F0 H0 F' H' σ' e → D.ct σ' H'
  | .nc e => ∀ F' H' σ', Ex F F' → Sm P w K F0 H0 F' H' σ' e → D.nx σ' H' ∧ D.ct σ' H'
  | .bk e => ∀ F' H' σ', Ex F F' → Sm P w K F0 H0 F' H' σ' e → D.bk σ' H'
  | .rt d => ∀ v F' H', Wk F0 H0 F' H' → Rp K F' d v → D.rt v H'
  | .rte d e => ∀ v F' H' σ', Ex F F' → Sm P w K F0 H0 F' H' σ' e → Rp K F' d v → D.rt v H'
  | .ro u => ∀ p o F' H', Wk F0 H0 F' H' → H0 p = none → F' p = none → H' p = some o → OwOk P w K F' p u o → D.rt (.ref p) H'
  | .rz W x e => ∀ od F' H' σ', Ex F F' → Sm P w K F0 H0 F' H' σ' e → XnOk K F' x od → W (.ref x.C) od σ' H'
def Se (t : TS) (env : En) (o : Out) : Prop := ∀ F0 H0 F H σ D, Sm P w K F0 H0 F H σ env → Po P w K F0 H0 F D o → t D σ H
def Ge (g : TG) (d : Dt) (env env' : En) : Prop := ∀ F0 H0 F H σ v, Sm P w K F0 H0 F H σ env → Rp K F d v → ∀ Q : L2.St → Hp → Prop, (∀ F' H' σ', Ex F F' → Sm P w K F0 H0 F' H' σ' env' → Q σ' H') → g v σ H Q
/-- an expression that raises -/
def Er (W : WX) (te : TE) (env : En) (x : Xn) (env' : En) : Prop := ∀ F0 H0 F H σ, Sm P w K F0 H0 F H σ env → ∀ Q : VK, (∀ od F' H', Ex F F' → Sm P w K F0 H0 F' H' σ env' → XnOk K F' x od → W (.ref x.C) od σ H') → te σ H Q
def Ie (wi : TI) (env : En) (ds : List Dt) (env' : En) : Prop := ∀ F0 H0 F H σ, Sm P w K F0 H0 F H σ env → ∀ R : It → Hp → Prop, (∀ J F' H', Ex F F' → Sm P w K F0 H0 F' H' σ env' → Wl K F' J ds → R J H') → wi σ H R
/-- .. that changes nothing -/
def Ip (wi : TI) (env : En) (ds : List Dt) : Prop := ∀ F0 H0 F H σ, Sm P w K F0 H0 F H σ env → ∀ R : It → Hp → Prop, (∀ J F' H', Wk F H F' H' → Wl K F' J ds → R J H') → wi σ H R
end
section
variable {P : Program} {w : World} {K : PySem.W.Frag} {env env1 env2 env3 : En} {ta tb te tc : TE} {t u : TT} {d e z : Dt} {s s1 s2 : TS} {o : Out} {g : TG} {tA : TA} {R : List Dt → Rs → Prop} {ds : List Dt}
/-! calls -/
theorem ep_call {E : XK} (h : EpA P w K tA env ds) (hf : R ds (.d d)) : Ep P w K (tCall (spR P w K R) [] E tA) env d := fun F0 H0 F H σ S Q q =>
  h F0 H0 F H σ S _ fun vs F1 H1 w1 r1 => ⟨F1, ds, .d d, w1.s, by rw [List.append_nil]; exact r1, hf, fun v F2 H2 w2 r2 => q v F2 H2 (w1.trans w2) r2⟩
theorem ep_callS {E : L2.St → XK} (h : EpA P w K tA env ds) (hf : R ds (.d d)) : Ep P w K (tCallS (spR P w K R) E tA) env d := fun F0 H0 F H σ S Q q =>
  h F0 H0 F H σ S _ fun vs F1 H1 w1 r1 => ⟨F1, ds, .d d, w1.s, r1, hf, fun v F2 H2 w2 r2 => q v F2 H2 (w1.trans w2) r2⟩
theorem po_call {E : XK} {u : Ow} (h : EpA P w K tA env ds) (hf : R ds (.o u)) : EpO P w K (tCall (spR P w K R) [] E tA) env u := fun F0 H0 F H σ S Q q =>
  h F0 H0 F H σ S _ fun vs F1 H1 w1 r1 => ⟨F1, ds, .o u, w1.s, by rw [List.append_nil]; exact r1, hf, fun p o F2 H2 w2 n1 n2 h1 r2 => q p o F2 H2 (w1.trans w2) (none_sub w1.h n1) n2 h1 r2⟩
theorem po_callS {E : L2.St → XK} {u : Ow} (h : EpA P w K tA env ds) (hf : R ds (.o u)) : EpO P w K (tCallS (spR P w K R) E tA) env u := fun F0 H0 F H σ S Q q =>
  h F0 H0 F H σ S _ fun vs F1 H1 w1 r1 => ⟨F1, ds, .o u, w1.s, r1, hf, fun p o F2 H2 w2 n1 n2 h1 r2 => q p o F2 H2 (w1.trans w2) (none_sub w1.h n1) n2 h1 r2⟩
theorem ee_call {E : XK} (h : EeA P w K tA env ds env1) (hf : R ds (.d d)) : Ee P w K (tCall (spR P w K R) [] E tA) env d env1 := ⟨h.1, fun F0 H0 F H σ S Q q =>
  h.2 F0 H0 F H σ S _ fun vs F1 H1 w1 S1 r1 => ⟨F1, ds, .d d, S1.sub, by rw [List.append_nil]; exact r1, hf, fun v F2 H2 w2 r2 => q v F2 H2 (w1.trans h.1 (.of w2)) (S1.wk w2) r2⟩⟩
theorem eo_call {E : XK} {u : Ow} (h : EeA P w K tA env ds env1) (hf : R ds (.o u)) : EnO P w K (tCall (spR P w K R) [] E tA) env u env1 := ⟨h.1, fun F0 H0 F H σ S Q q =>
  h.2 F0 H0 F H σ S _ fun vs F1 H1 w1 S1 r1 => ⟨F1, ds, .o u, S1.sub, by rw [List.append_nil]; exact r1, hf, fun p o F2 H2 w2 n1 n2 h1 r2 => q p o F2 H2 (w1.trans h.1 (.of w2)) (S1.wk w2) (w1.b p n1) n2 h1 r2⟩⟩
theorem er_callS {W : WX} {x : Xn} (h : EpA P w K tA env ds) (hf : R ds (.x x)) : Er P w K W (tCallS (spR P w K R) (WE W) tA) env x env := fun F0 H0 F H σ S Q q =>
  h F0 H0 F H σ S _ fun vs F1 H1 w1 r1 => ⟨F1, ds, .x x, w1.s, r1, hf, fun od F2 H2 w2 r2 => q od F2 H2 (w1.f.trans w2.f) (S.wk (w1.trans w2)) r2⟩
/-- f(p, ..), p one's own, changed by f -/
theorem ee_callM {E : XK} {i : Nat} {Rm : Ow → List Dt → Dt → Ow → Prop} {ta' : TA} {t' : Option Addr} {u u' : Ow} (h : EpA P w K ta' env ds) (hi : env[i]? = some (.ow t' u)) (hf : Rm u ds d u') :
    Ee P w K (tCall (spM P w K Rm) [] E (tCons (tVar i) ta')) env d (env.set i (.ow t' u')) := ⟨Sh.set hi, fun F0 H0 F H σ S Q q => by
  obtain ⟨p, o1, e1, g0, g1, g2, g3, g4⟩ := S.own hi
  refine ⟨_, e1, h F0 H0 F H σ S _ fun vs F1 H1 w1 r1 => ⟨F1, p, vs, o1, u, ds, d, u', by rw [List.append_nil], w1.s, w1.n p _ g3 g1, w1.h p _ g3, g4.mono w1.f, r1, hf, fun v F2 H2 o2 f2 s2 k2 n2 b2 h2 r2 rv => ?_⟩⟩
  -- the heap behind the call, with p as it was
  have kW : Wk F H F2 (L2.upd H2 p o1) := by
    refine ⟨w1.f.trans f2, fun a v e => ?_, fun a v e => ?_, fun a v e n => ?_⟩
    · by_cases z : a = p
      · subst z
        rw [g3] at e
        rw [upd_same, e]
      · rw [upd_ne z]
        exact k2 a v z (w1.h a v e)
    · by_cases z : a = p
      · subst z
        have := n2 a _ (w1.h a _ g3) (w1.n a _ g3 g1)
        rw [this] at e
        cases e
      · rw [upd_ne z]
        exact s2 a v e
    · exact n2 a v (w1.h a v e) (w1.n a v e n)
  have S2 := S.wk kW
  have e2 : L2.upd (L2.upd H2 p o1) p o2 = H2 := by
    funext a
    by_cases z : a = p
    · subst z
      rw [upd_same, h2]
    · rw [upd_ne z, upd_ne z]
  have S3 := S2.mut hi e1 r2
  have W3 := Wo.mut (o := o2) S2 hi e1
  rw [e2] at S3 W3
  exact q v F2 H2 ((Wo.of kW).trans Sh.refl W3) S3 rv⟩
theorem spR_len {n : Nat} (hf : ∀ ds r, R ds r → ds.length = n) (vs : List V) (H : Hp) (Q : VK) (E : XK) (h : spR P w K R vs H Q E) : vs.length = n := by
  obtain ⟨F, ds, d, _, r, e, _⟩ := h
  rw [← r.length]
  exact hf ds d e
/-! statements -/
theorem Po.ex {F0 H0 F F' : Hp} {D : Ends} (e : Ex F F') (p : Po P w K F0 H0 F D o) : Po P w K F0 H0 F' D o := by
  cases o with
  | nx e1 => exact fun F2 H2 σ2 e2 S => p F2 H2 σ2 (e.trans e2) S
  | ct e1 => exact fun F2 H2 σ2 e2 S => p F2 H2 σ2 (e.trans e2) S
  | nc e1 => exact fun F2 H2 σ2 e2 S => p F2 H2 σ2 (e.trans e2) S
  | bk e1 => exact fun F2 H2 σ2 e2 S => p F2 H2 σ2 (e.trans e2) S
  | rt d => exact p
  | rte d e1 => exact fun v F2 H2 σ2 e2 S => p v F2 H2 σ2 (e.trans e2) S
  | ro u => exact p
  | rz W x e1 => exact fun od F2 H2 σ2 e2 S => p od F2 H2 σ2 (e.trans e2) S
theorem ge_name {i : Nat} : Ge P w K (gName i) d env (env.set i (.d d)) := fun F0 H0 F H σ v S r Q q => q F H _ (Ex.refl F) (S.setD r)
theorem se_asgG (h : Ee P w K te env d env1) (hg : Ge P w K g d env1 env2) : Se P w K (tAsg te g) env (.nx env2) := fun F0 H0 F H σ D S p =>
  h.2 F0 H0 F H σ S _ fun v F1 H1 k S1 r => hg F0 H0 F1 H1 σ v S1 r _ fun F2 H2 σ' e S' => p F2 H2 σ' (k.f.trans e) S'
theorem se_asg {i : Nat} (h : Ee P w K te env d env1) : Se P w K (tAsg te (gName i)) env (.nx (env1.set i (.d d))) := se_asgG h ge_name
/-- x = a new thing that will be changed -/
theorem se_own {i : Nat} {v : Ow} (h : EnO P w K te env v env1) : Se P w K (tAsg te (gName i)) env (.nx (env1.set i (.ow none v))) := fun F0 H0 F H σ D S p =>
  h.2 F0 H0 F H σ S _ fun a ho F1 H1 k S1 n1 n2 h1 r => p F1 H1 _ k.f (S1.setO n2 (none_sub S.g.h n1) h1 r fun z => S.ownNew n1 (h.1.own z))
theorem se_ret (h : Ee P w K te env d env1) : Se P w K (tRet te) env (.rt d) := fun F0 H0 F H σ D S p => h.2 F0 H0 F H σ S _ fun v F1 H1 k S1 r => p v F1 H1 S1.g r
theorem se_rte (h : Ee P w K te env d env1) : Se P w K (tRet te) env (.rte d env1) := fun F0 H0 F H σ D S p => h.2 F0 H0 F H σ S _ fun v F1 H1 k S1 r => p v F1 H1 σ k.f S1 r
theorem se_ro {v : Ow} (h : EnO P w K te env v env1) : Se P w K (tRet te) env (.ro v) := fun F0 H0 F H σ D S p => h.2 F0 H0 F H σ S _ fun a ho F1 H1 k S1 n1 n2 h1 r => p a ho F1 H1 S1.g (none_sub S.g.h n1) n2 h1 r
/-- return x, x one's own -/
theorem se_roV {i : Nat} {t' : Option Addr} {v : Ow} (h : env[i]? = some (.ow t' v)) : Se P w K (tRet (tVar i)) env (.ro v) := fun F0 H0 F H σ D S p => by
  obtain ⟨a, ho, e1, _, g1, g2, g3, g4⟩ := S.own h
  exact ⟨_, e1, p a ho F H S.g g2 g1 g3 g4⟩
theorem se_retN : Se P w K tRetN env (.rt .non) := fun F0 H0 F H σ D S p => p _ F H S.g rfl
theorem se_next : Se P w K tNext env (.nx env) := fun F0 H0 F H σ D S p => p F H σ (Ex.refl F) S
theorem se_break : Se P w K tBreak env (.bk env) := fun F0 H0 F H σ D S p => p F H σ (Ex.refl F) S
theorem se_cont : Se P w K tCont env (.ct env) := fun F0 H0 F H σ D S p => p F H σ (Ex.refl F) S
theorem se_drop (h : Ee P w K te env d env1) : Se P w K (tDrop te) env (.nx env1) := fun F0 H0 F H σ D S p => h.2 F0 H0 F H σ S _ fun v F1 H1 k S1 r => p F1 H1 σ k.f S1
theorem se_dropX {W : WX} {x : Xn} (h : Er P w K W te env x env1) : Se P w K (tDrop te) env (.rz W x env1) := fun F0 H0 F H σ D S p => h F0 H0 F H σ S _ fun od F1 H1 k S1 r => p od F1 H1 σ k S1 r
theorem se_asgX {W : WX} {x : Xn} (h : Er P w K W te env x env1) : Se P w K (tAsg te g) env (.rz W x env1) := fun F0 H0 F H σ D S p => h F0 H0 F H σ S _ fun od F1 H1 k S1 r => p od F1 H1 σ k S1 r
theorem se_retX {W : WX} {x : Xn} (h : Er P w K W te env x env1) : Se P w K (tRet te) env (.rz W x env1) := fun F0 H0 F H σ D S p => h F0 H0 F H σ S _ fun od F1 H1 k S1 r => p od F1 H1 σ k S1 r
theorem se_seq (h1 : Se P w K s1 env (.nx env1)) (h2 : Se P w K s2 env1 o) : Se P w K (tSeq s1 s2) env o := fun F0 H0 F H σ D S p =>
  h1 F0 H0 F H σ _ S fun F1 H1 σ1 e1 S1 => h2 F0 H0 F1 H1 σ1 D S1 (p.ex e1)
/-- an end that no later statement sees -/
def Out.fin : Out → Bool
  | .nx _ => false
  | .nc _ => false
  | _ => true
theorem se_seqF (h1 : Se P w K s1 env o) (f : o.fin = true := by rfl) : Se P w K (tSeq s1 s2) env o := fun F0 H0 F H σ D S p => by
  refine h1 F0 H0 F H σ _ S ?_
  cases o <;> first | exact p | cases f
theorem se_nc (h : Se P w K s env (.nx env1)) : Se P w K s env (.nc env1) := fun F0 H0 F H σ D S p => h F0 H0 F H σ D S fun F1 H1 σ1 e1 S1 => (p F1 H1 σ1 e1 S1).1
theorem se_cc (h : Se P w K s env (.ct env1)) : Se P w K s env (.nc env1) := fun F0 H0 F H σ D S p => h F0 H0 F H σ D S fun F1 H1 σ1 e1 S1 => (p F1 H1 σ1 e1 S1).2
theorem se_if {b : Bool} (h : Te P w K t env b env1) (h1 : b = true → Se P w K s1 env1 o) (h2 : b = false → Se P w K s2 env1 o) : Se P w K (tIfS t s1 s2) env o := fun F0 H0 F H σ D S p => h.2 F0 H0 F H σ S _ fun F1 H1 k S1 => by
  cases b with
  | true =>
    show s1 D σ H1
    exact h1 rfl F0 H0 F1 H1 σ D S1 (p.ex k.f)
  | false =>
    show s2 D σ H1
    exact h2 rfl F0 H0 F1 H1 σ D S1 (p.ex k.f)
/-- if t: s1 (no else), then s2 -/
theorem se_when {b : Bool} (h : Te P w K t env b env1) (h1 : b = true → Se P w K (tSeq s1 s2) env1 o) (h2 : b = false → Se P w K s2 env1 o) : Se P w K (tSeq (tIfS t s1 tNext) s2) env o := fun F0 H0 F H σ D S p => h.2 F0 H0 F H σ S _ fun F1 H1 k S1 => by
  cases b with
  | true =>
    show s1 { D with nx := s2 D } σ H1
    exact h1 rfl F0 H0 F1 H1 σ D S1 (p.ex k.f)
  | false =>
    show s2 D σ H1
    exact h2 rfl F0 H0 F1 H1 σ D S1 (p.ex k.f)
/-- if t: s1 else: s2, then s -/
theorem se_ifq {b : Bool} (h : Te P w K t env b env1) (h1 : b = true → Se P w K (tSeq s1 s) env1 o) (h2 : b = false → Se P w K (tSeq s2 s) env1 o) : Se P w K (tSeq (tIfS t s1 s2) s) env o := fun F0 H0 F H σ D S p => h.2 F0 H0 F H σ S _ fun F1 H1 k S1 => by
  cases b with
  | true =>
    show s1 { D with nx := s D } σ H1
    exact h1 rfl F0 H0 F1 H1 σ D S1 (p.ex k.f)
  | false =>
    show s2 { D with nx := s D } σ H1
    exact h2 rfl F0 H0 F1 H1 σ D S1 (p.ex k.f)
theorem se_le (h : Se P w K s env (.nx env1)) (l : Le env1 env2) : Se P w K s env (.nx env2) := fun F0 H0 F H σ D S p => h F0 H0 F H σ D S fun F1 H1 σ1 e1 S1 => p F1 H1 σ1 e1 (S1.le l)
theorem se_lec (h : Se P w K s env (.nc env1)) (l : Le env1 env2) : Se P w K s env (.nc env2) := fun F0 H0 F H σ D S p => h F0 H0 F H σ D S fun F1 H1 σ1 e1 S1 => p F1 H1 σ1 e1 (S1.le l)
theorem se_pre (l : Le env env1) (h : Se P w K s env1 o) : Se P w K s env o := fun F0 H0 F H σ D S p => h F0 H0 F H σ D (S.le l) p
theorem se_freeze {i : Nat} {t' : Option Addr} {v : Ow} (hi : env[i]? = some (.ow t' v)) (hd : v.dt = some d) (h : Se P w K s (env.set i (.d d)) o) : Se P w K s env o := fun F0 H0 F H σ D S p => by
  obtain ⟨a, ho, h1, h2, h3, h4, h5, S'⟩ := S.freeze hi hd
  exact h F0 H0 _ H σ D S' (p.ex (Ex.new h2))
theorem se_is (h : Se P w K s env o) {o' : Out} (e : o = o') : Se P w K s env o' := e ▸ h
/-- a state that the slots' form allows not -/
theorem se_rt_of {v : Ow} (h : Se P w K s env (.ro v)) (hd : v.dt = some d) : Se P w K s env (.rt d) := fun F0 H0 F H σ D S p => h F0 H0 F H σ D S fun a ho F1 H1 k n0 n1 h1 r =>
  p (.ref a) (L2.upd F1 a ho) H1 ⟨fun b v e => by
    rw [upd_ne (ne_of_none (k.f b v e) n1)]
    exact k.f b v e, k.h, fun b v e => by
    by_cases z : b = a
    · subst z
      rw [upd_same] at e
      rw [h1, ← e]
    · rw [upd_ne z] at e
      exact k.s b v e, fun b v e n => by
    rw [upd_ne (ne_of_none e n0)]
    exact k.n b v e n⟩ ((r.mono (Ex.new n1)).rp hd upd_same)
/-! targets -/
def Gs (P : Program) (w : World) (K : PySem.W.Frag) (g : TGs) (ds : List Dt) (env env' : En) : Prop := ∀ F0 H0 F H σ vs, Sm P w K F0 H0 F H σ env → RpL K F ds vs → ∀ Q : L2.St → Hp → Prop, (∀ F' H' σ', Ex F F' → Sm P w K F0 H0 F' H' σ' env' → Q σ' H') → g vs σ H Q
theorem gs_nil : Gs P w K gNil [] env env := fun F0 H0 F H σ vs S r Q q => ⟨r, q F H σ (Ex.refl F) S⟩
theorem gs_cons {gr : TGs} (h : Ge P w K g d env env1) (hr : Gs P w K gr ds env1 env2) : Gs P w K (gCons g gr) (d :: ds) env env2 := fun F0 H0 F H σ vs S r Q q => by
  obtain ⟨v, rest, rfl, r1, r2⟩ := r
  exact ⟨v, rest, rfl, h F0 H0 F H σ v S r1 _ fun F1 H1 σ1 e1 S1 => hr F0 H0 F1 H1 σ1 rest S1 (r2.mono e1) Q fun F2 H2 σ2 e2 S2 => q F2 H2 σ2 (e1.trans e2) S2⟩
theorem ge_tup {gs : TGs} {n : Nat} (h : Gs P w K gs ds env env1) (hn : ds.length = n := by rfl) : Ge P w K (gTup K n gs) (.tup ds) env env1 := fun F0 H0 F H σ v S r Q q => by
  obtain ⟨a, vs, rfl, h1, h2⟩ := r
  exact ⟨a, vs, rfl, ex_t S.sub h1, by rw [← h2.length]; exact hn, h F0 H0 F H σ vs S h2 Q q⟩
/-! one's own, changed -/
theorem se_app {i : Nat} {t' : Option Addr} {xs : List Dt} (hi : env[i]? = some (.ow t' (.lst xs))) (h : Ee P w K te env d env1) (hi1 : env1[i]? = some (.ow t' (.lst xs)) := by rfl) (hz : xs.length < 100000) : Se P w K (tDrop (tBM K "list" rAppend (tVar i) (tCons te tNil))) env (.nx (env1.set i (.ow t' (.lst (xs ++ [d]))))) := fun F0 H0 F H σ D S p => by
  obtain ⟨a, ho, h1, g0, g1, g2, g3, vs, rfl, g4⟩ := S.own hi
  refine ⟨_, h1, .inl ⟨rfl, vs, sq_of g3⟩, h.2 F0 H0 F H σ S _ fun v F1 H1 k S1 r => ?_⟩
  obtain ⟨b, ho', e1, f0, f1, f2, f3, us, rfl, f4⟩ := S1.own hi1
  rw [h1] at e1
  cases e1
  exact ⟨a, us, v, rfl, rfl, f3, sz_lt (by rw [← f4.length]; exact hz), p F1 _ σ k.f (S1.mut hi1 h1 ⟨_, rfl, RpL.append f4 (RpL.cons r RpL.nil)⟩)⟩
theorem se_setL {i : Nat} {t' : Option Addr} {xs : List Dt} {k : Int} {n : Nat} (h : Ee P w K te env d env1) (hk : Ee P w K tb env1 (.int k) env2) (hi : env2[i]? = some (.ow t' (.lst xs)) := by rfl) (hn : ixN xs.length k = some n) : Se P w K (tAsg te (gSub (tVar i) tb rSetL)) env (.nx (env2.set i (.ow t' (.lst (xs.set n d))))) := fun F0 H0 F H σ D S p => by
  refine h.2 F0 H0 F H σ S _ fun v F1 H1 k1 S1 r => ?_
  have own1 : ∃ (t1 : Option Addr) (u1 : Ow), env1[i]? = some (.ow t1 u1) := by
    have hl : i < env1.length := by
      rw [hk.1.1]
      exact (List.getElem?_eq_some_iff.mp hi).1
    rcases hk.1.2 i env1[i] (List.getElem?_eq_getElem hl) with z | ⟨t1, u1, u2, z, _⟩
    · rw [hi] at z
      exact ⟨_, _, by rw [List.getElem?_eq_getElem hl, ← Option.some.inj z]⟩
    · exact ⟨t1, u1, by rw [List.getElem?_eq_getElem hl, z]⟩
  obtain ⟨t1, u1, hi1⟩ := own1
  obtain ⟨a, ho, h1, _⟩ := S1.own hi1
  refine ⟨_, h1, hk.2 F0 H0 F1 H1 σ S1 _ fun kv F2 H2 k2 S2 r2 => ?_⟩
  obtain ⟨b, ho', e1, f0, f1, f2, f3, us, rfl, f4⟩ := S2.own hi
  rw [h1] at e1
  cases e1
  exact ⟨a, us, k, n, rfl, r2, f3, by rw [← f4.length]; exact hn, p F2 _ σ (k1.f.trans k2.f) (S2.mut hi h1 ⟨_, rfl, RpL.set n f4 (r.mono k2.f)⟩)⟩
/-! a def's body -/
theorem Sm.start {F H : Hp} {vs : List V} {N : List Str} (e : Ex F H) (r : RpL K F ds vs) : Sm P w K F H F H (L2.start N vs) (ds.map Sl.d ++ List.replicate (N.length - ds.length) Sl.u) := by
  have hl := r.length
  refine ⟨e, Wk.refl e, by simp [L2.start, hl], fun i s h => ?_, fun i j t t' u u' p ne e1 e2 _ => ?_⟩
  · unfold L2.start
    by_cases hi : i < ds.length
    · rw [List.getElem?_append_left (by simpa using hi), List.getElem?_map] at h
      cases q : ds[i]? with
      | none => rw [q] at h; cases h
      | some d =>
        rw [q] at h
        cases h
        obtain ⟨v, h1, h2⟩ := r.get q
        exact ⟨some v, by rw [List.getElem?_append_left (by simp; omega), List.getElem?_map, h1]; rfl, v, rfl, h2⟩
    · rw [List.getElem?_append_right (by simpa using hi), List.length_map, List.getElem?_replicate] at h
      split at h
      · rename_i lt
        cases h
        exact ⟨none, by rw [List.getElem?_append_right (by simp; omega), List.length_map, List.getElem?_replicate, if_pos (by omega)], rfl⟩
      · cases h
  · by_cases hi : i < ds.length
    · rw [List.getElem?_append_left (by simpa using hi), List.getElem?_map] at e1
      cases q : ds[i]? <;> rw [q] at e1 <;> cases e1
    · rw [List.getElem?_append_right (by simpa using hi), List.length_map, List.getElem?_replicate] at e1
      split at e1 <;> cases e1
/-- the end that a result asks of the body -/
def outR (E : XK) (e : En) : Rs → Out
  | .d d => .rt d
  | .o u => .ro u
  | .x y => .rz (fun cls d _ H => E cls d H) y e
/-- the body does what is due: for an exception, whatever the slots are -/
def Does (P : Program) (w : World) (K : PySem.W.Frag) (E : XK) (s : TS) (env : En) : Rs → Prop
  | .d d => Se P w K s env (.rt d) ∨ (d = .non ∧ ∃ e, Se P w K s env (.nx e))
  | .o u => Se P w K s env (.ro u)
  | .x x => ∃ e, Se P w K s env (.rz (fun cls d _ H => E cls d H) x e)
theorem run_r {N : List Str} {vs : List V} {H : Hp} {Q : VK} {E : XK} (h : spR P w K R vs H Q E) (b : ∀ ds r, R ds r → Does P w K E s (ds.map Sl.d ++ List.replicate (N.length - ds.length) Sl.u) r) : s { nx := fun _ H' => Q .non H', rt := Q } (L2.start N vs) H := by
  obtain ⟨F, ds, r, e, rp, hf, q⟩ := h
  have hb := b ds r hf
  cases r with
  | d d =>
    rcases hb with hb | ⟨rfl, e1, hb⟩
    · exact hb F H F H _ _ (Sm.start e rp) fun v F' H' k r' => q v F' H' k r'
    · exact hb F H F H _ _ (Sm.start e rp) fun F' H' σ' _ S => q .non F' H' S.g rfl
  | o u => exact hb F H F H _ _ (Sm.start e rp) fun p o F' H' k n0 n1 h1 r' => q p o F' H' k n0 n1 h1 r'
  | x x =>
    obtain ⟨e1, hb⟩ := hb
    exact hb F H F H _ _ (Sm.start e rp) fun od F' H' σ' _ S r' => q od F' H' S.g r'
end
end Qw

set_option maxHeartbeats 1000000
/-! ### loops, comprehensions -/
namespace Qw
open PySem PySem.Spec PyProof.Rows L2 Evl
open Pw (Dt Rp RpL Wk none_sub get_set set_same set_ne R2d R1d RLd RLn Kq KqL truD isEmpty_rp flatD fl py pyL rangeD rangeD_len charsD wl_at Wl wl_range rangeD_nat find_split itemD)
section
variable {P : Program} {w : World} {K : PySem.W.Frag} {env env1 env2 env3 : En} {ta tb te tc tl : TE} {t u : TT} {d e z : Dt} {s s1 s2 : TS} {o : Out} {g : TG} {tA : TA} {ds : List Dt} {wi : TI}
theorem ip_list (h : Ep P w K tl env (.lst ds)) : Ip P w K (iList K tl) env ds := fun F0 H0 F H σ S R k =>
  h F0 H0 F H σ S _ fun v F1 H1 k1 r => by
    obtain ⟨a, vs, rfl, h1, h2⟩ := r
    exact ⟨a, rfl, ⟨vs, ex_l k1.s h1⟩, k _ F1 H1 k1 (wl_at h2 walk_list fun H e => ex_l e h1)⟩
theorem ip_tup (h : Ep P w K tl env (.tup ds)) : Ip P w K (iTup K tl) env ds := fun F0 H0 F H σ S R k =>
  h F0 H0 F H σ S _ fun v F1 H1 k1 r => by
    obtain ⟨a, vs, rfl, h1, h2⟩ := r
    exact ⟨a, rfl, ⟨vs, ex_t k1.s h1⟩, k _ F1 H1 k1 (wl_at h2 walk_tup fun H e => ex_t e h1)⟩
theorem ip_rng1 {n : Int} (h : EpA P w K tA env [.int n]) (hn : -100000 ≤ n ∧ n ≤ 100000) : Ip P w K (iRng1 tA) env (rangeD 0 n.toNat) := fun F0 H0 F H σ S R k =>
  h F0 H0 F H σ S _ fun vs F1 H1 k1 r => by
    obtain ⟨v, r', rfl, e1, e2⟩ := r
    cases e1; cases e2
    exact ⟨n, rfl, by omega, by omega, k _ F1 H1 k1 wl_range⟩
theorem ip_rng2 {lo n : Int} (h : EpA P w K tA env [.int lo, .int n]) (hn : -100000 ≤ n ∧ n ≤ 100000 ∧ -100000 ≤ lo ∧ lo ≤ 100000) : Ip P w K (iRng2 tA) env (rangeD lo (n - lo).toNat) := fun F0 H0 F H σ S R k =>
  h F0 H0 F H σ S _ fun vs F1 H1 k1 r => by
    obtain ⟨v, r', rfl, e1, v2, r2, rfl, e2, e3⟩ := r
    cases e1; cases e2; cases e3
    exact ⟨lo, n, rfl, ⟨by omega, by omega, by omega, by omega⟩, k _ F1 H1 k1 wl_range⟩
theorem ip_str {x : Str} (h : Ep P w K tl env (.str x)) : Ip P w K (iStr tl) env (charsD x) := fun F0 H0 F H σ S R k =>
  h F0 H0 F H σ S _ fun v F1 H1 k1 r => by
    cases r
    refine ⟨x, rfl, k _ F1 H1 k1 ?_⟩
    have hl : (charsD x).length = x.cps.size := by simp [charsD]
    unfold Wl
    rw [hl]
    refine walk_str.mono (fun _ _ => trivial) fun i H x' H' hi e y F2 e2 e3 => ?_
    obtain ⟨rfl, c, hc, rfl⟩ := y
    exact ⟨F2, .str ⟨#[c]⟩, Wk.refl e3, by simp [charsD, hc], rfl⟩
theorem ie_p (h : Ip P w K wi env ds) : Ie P w K wi env ds env := fun F0 H0 F H σ S R k => h F0 H0 F H σ S R fun J F1 H1 k1 W => k J F1 H1 k1.f (S.wk k1) W
/-! loops -/
theorem se_for {tb : TS} (hI : Ie P w K wi env ds env1) (E : Nat → En) (m : Nat) (hm : m ≤ ds.length) (h0 : Le env1 (E 0))
    (hs : ∀ i d, i < m → ds[i]? = some d → ∃ e1, Ge P w K g d (E i) e1 ∧ Se P w K tb e1 (.nc (E (i + 1))))
    (hd : (m = ds.length ∧ o = .nx (E m)) ∨ ∃ d e1, ds[m]? = some d ∧ Ge P w K g d (E m) e1 ∧ ((o.fin = true ∧ (∀ e, o ≠ .bk e) ∧ (∀ e, o ≠ .ct e) ∧ Se P w K tb e1 o) ∨ ∃ e, o = .nx e ∧ Se P w K tb e1 (.bk e))) : Se P w K (tFor wi g tb) env o := fun F0 H0 F H σ D S p =>
  hI F0 H0 F H σ S _ fun J F1 H1 f1 S1 W => by
    refine for_it W (fun i σ H => i ≤ m ∧ ∃ F, Ex F1 F ∧ Sm P w K F0 H0 F H σ (E i)) ⟨Nat.zero_le m, F1, Ex.refl F1, S1.le h0⟩ (fun i σ H _ h => ?_) (fun i x σ H H' hi h y => ?_) (fun σ H h => ?_)
    · obtain ⟨_, F2, e2, S2⟩ := h
      exact e2.trans S2.sub
    · obtain ⟨him, F2, e2, S2⟩ := h
      obtain ⟨F3, d, w3, hd', r3⟩ := y F2 e2 S2.sub
      by_cases hlt : i < m
      · obtain ⟨e1, hg, hb⟩ := hs i d hlt hd'
        refine hg F0 H0 F3 H' σ x (S2.wk w3) r3 _ fun F4 H4 σ3 e3 S3 => ?_
        refine hb F0 H0 F4 H4 σ3 _ S3 fun F5 H5 σ4 e4 S4 => ⟨⟨hlt, F5, ((e2.trans w3.f).trans e3).trans e4, S4⟩, ⟨hlt, F5, ((e2.trans w3.f).trans e3).trans e4, S4⟩⟩
      · have him' : i = m := by omega
        subst him'
        rcases hd with ⟨e, _⟩ | ⟨d', e1, h1, hg, hb⟩
        · omega
        · rw [hd'] at h1
          cases h1
          refine hg F0 H0 F3 H' σ x (S2.wk w3) r3 _ fun F4 H4 σ3 e3 S3 => ?_
          have ef : Ex F F4 := ((f1.trans e2).trans w3.f).trans e3
          rcases hb with ⟨ho, nb, nc, hz⟩ | ⟨e, rfl, hz⟩
          · refine hz F0 H0 F4 H4 σ3 _ S3 ?_
            have p' := p.ex ef
            cases o <;> first | exact p' | (cases ho; done) | exact absurd rfl (nb _) | exact absurd rfl (nc _)
          · exact hz F0 H0 F4 H4 σ3 _ S3 fun F5 H5 σ4 e4 S4 => p F5 H5 σ4 (ef.trans e4) S4
    · obtain ⟨hn, F2, e2, S2⟩ := h
      have e : m = ds.length := by omega
      rcases hd with ⟨_, rfl⟩ | ⟨d', e1, h1, _⟩
      · rw [← e] at S2
        exact p F2 H σ (f1.trans e2) S2
      · have := (List.getElem?_eq_some_iff.mp h1).1
        omega
/-- a fold -/
theorem se_fold {α S : Type} {tb : TS} (xs : List α) (dec : α → Dt) (hds : ds = xs.map dec) (hI : Ip P w K wi env ds) (enc : S → En) (step : S → α → S) (Pv : S → List α → Prop) (s0 : S) (h0 : Le env (enc s0)) (p0 : Pv s0 [])
    (hs : ∀ s pre a post, xs = pre ++ a :: post → Pv s pre → Pv (step s a) (pre ++ [a]) ∧ ∃ e1, Ge P w K g (dec a) (enc s) e1 ∧ Se P w K tb e1 (.nc (enc (step s a)))) : Se P w K (tFor wi g tb) env (.nx (enc (xs.foldl step s0))) := by
  subst hds
  have key : ∀ i, i ≤ xs.length → Pv ((xs.take i).foldl step s0) (xs.take i) := by
    intro i
    induction i with
    | zero => intro _; exact p0
    | succ i ih =>
      intro hi
      have hx : xs = xs.take i ++ xs[i] :: xs.drop (i + 1) := by simp
      have e : xs.take (i + 1) = xs.take i ++ [xs[i]] := by simp
      rw [e, List.foldl_append]
      exact (hs _ (xs.take i) xs[i] (xs.drop (i + 1)) hx (ih (by omega))).1
  refine se_for (ie_p hI) (fun i => enc ((xs.take i).foldl step s0)) xs.length (by simp) h0 (fun i d hi hd => ?_) (.inl ⟨by simp, by simp⟩)
  rw [List.getElem?_map, List.getElem?_eq_getElem hi] at hd
  cases hd
  have hx : xs = xs.take i ++ xs[i] :: xs.drop (i + 1) := by simp
  obtain ⟨_, e1, h1, h2⟩ := hs _ (xs.take i) xs[i] (xs.drop (i + 1)) hx (key i (by omega))
  refine ⟨e1, h1, ?_⟩
  have e : xs.take (i + 1) = xs.take i ++ [xs[i]] := by simp
  rw [e, List.foldl_append]
  exact h2
/-- for i in range(n) -/
theorem se_rng {S : Type} {tb : TS} (n : Nat) (h : EpA P w K tA env [.int (n : Int)]) (hn : n ≤ 100000) (enc : S → En) (step : S → Nat → S) (Pv : S → Nat → Prop) (s0 : S) (h0 : Le env (enc s0)) (p0 : Pv s0 0)
    (hs : ∀ s (i : Nat), i < n → Pv s i → Pv (step s i) (i + 1) ∧ ∃ e1, Ge P w K g (.int (i : Int)) (enc s) e1 ∧ Se P w K tb e1 (.nc (enc (step s i)))) : Se P w K (tFor (iRng1 tA) g tb) env (.nx (enc ((List.range n).foldl step s0))) := by
  refine se_fold (List.range n) (fun i => Dt.int (i : Int)) (rangeD_nat n) (ip_rng1 h (by omega)) enc step (fun s pre => Pv s pre.length) s0 h0 p0 fun s pre i post hx hp => ?_
  have hi : pre.length < n ∧ i = pre.length := by
    have h1 := congrArg List.length hx
    have h2 : (List.range n)[pre.length]? = some i := by rw [hx]; simp
    simp at h1
    rw [List.getElem?_range (by omega)] at h2
    exact ⟨by omega, (Option.some.inj h2).symm⟩
  obtain ⟨hl, rfl⟩ := hi
  obtain ⟨h1, h2⟩ := hs s pre.length hl hp
  refine ⟨?_, h2⟩
  rw [List.length_append]
  exact h1
/-- a loop that searches: at the first d with p d it ends as z d says -/
theorem se_find {tb : TS} (p : Dt → Bool) (z : Dt → Out) (hz : ∀ d, (z d).fin = true ∧ (∀ e, z d ≠ .bk e) ∧ (∀ e, z d ≠ .ct e)) (hI : Ip P w K wi env ds) (E : En) (h0 : Le env E) (hs : ∀ d ∈ ds, ∃ e1, Ge P w K g d E e1 ∧ (p d = true → Se P w K tb e1 (z d)) ∧ (p d = false → Se P w K tb e1 (.nc E))) :
    Se P w K (tFor wi g tb) env (match ds.find? p with | some d => z d | none => .nx E) := by
  cases h : ds.find? p with
  | none =>
    have hn : ∀ d ∈ ds, p d = false := fun d hd => by simpa using List.find?_eq_none.mp h d hd
    refine se_for (ie_p hI) (fun _ => E) ds.length (Nat.le_refl _) h0 (fun i d hi hd => ?_) (.inl ⟨rfl, rfl⟩)
    have hm := List.mem_of_getElem? hd
    obtain ⟨e1, h1, _, h3⟩ := hs d hm
    exact ⟨e1, h1, h3 (hn d hm)⟩
  | some d =>
    obtain ⟨i, h1, h2, h3⟩ := find_split h
    have hi : i < ds.length := (List.getElem?_eq_some_iff.mp h1).1
    refine se_for (ie_p hI) (fun _ => E) i (Nat.le_of_lt hi) h0 (fun j x hj hx => ?_) (.inr ?_)
    · obtain ⟨e1, g1, _, g3⟩ := hs x (List.mem_of_getElem? hx)
      exact ⟨e1, g1, g3 (h3 j x hj hx)⟩
    · obtain ⟨e1, g1, g2, _⟩ := hs d (List.mem_of_getElem? h1)
      exact ⟨d, e1, h1, g1, .inl ⟨(hz d).1, (hz d).2.1, (hz d).2.2, g2 h2⟩⟩
theorem se_while {tb : TS} (Pv : En → Prop) (μ : En → Nat) (hs : ∀ e, Pv e → ∃ b, Te P w K t e b e ∧ (b = true → (∃ e', Pv e' ∧ μ e' < μ e ∧ Se P w K tb e (.nc e')) ∨ (o.fin = true ∧ (∀ e, o ≠ .bk e) ∧ (∀ e, o ≠ .ct e) ∧ Se P w K tb e o) ∨ ∃ e', o = .nx e' ∧ Se P w K tb e (.bk e')) ∧ (b = false → o = .nx e)) (h0 : Pv env) : Se P w K (tWhile t tb) env o := fun F0 H0 F H σ D S p => by
  refine ⟨fun m σ' H' => ∃ e F', Pv e ∧ μ e = m ∧ Ex F F' ∧ Sm P w K F0 H0 F' H' σ' e, ⟨_, env, F, h0, rfl, Ex.refl F, S⟩, ?_⟩
  rintro m σ' H' ⟨e, F', hP, rfl, ex, S'⟩
  obtain ⟨b, hb, h1, h2⟩ := hs e hP
  refine hb.2 F0 H0 F' H' σ' S' _ fun F1 H1 k S1 => ?_
  cases b with
  | true =>
    refine ⟨fun σ2 H2 => ∃ e2 F2, Pv e2 ∧ μ e2 < μ e ∧ Ex F F2 ∧ Sm P w K F0 H0 F2 H2 σ2 e2, fun σ2 H2 ⟨e2, F2, a, b, c, d⟩ => ⟨μ e2, b, e2, F2, a, rfl, c, d⟩, ?_⟩
    rcases h1 rfl with ⟨e', p1, p2, p3⟩ | ⟨ho, nb, nc, p3⟩ | ⟨e', rfl, p3⟩
    · exact p3 F0 H0 F1 H1 σ' _ S1 fun F4 H4 σ4 e4 S4 => ⟨⟨e', F4, p1, p2, (ex.trans k.f).trans e4, S4⟩, ⟨e', F4, p1, p2, (ex.trans k.f).trans e4, S4⟩⟩
    · refine p3 F0 H0 F1 H1 σ' _ S1 ?_
      have p' := p.ex (ex.trans k.f)
      cases o <;> first | exact p' | (cases ho; done) | exact absurd rfl (nb _) | exact absurd rfl (nc _)
    · exact p3 F0 H0 F1 H1 σ' _ S1 fun F4 H4 σ4 e4 S4 => p F4 H4 σ4 ((ex.trans k.f).trans e4) S4
  | false =>
    have := h2 rfl
    subst this
    exact p F1 H1 σ' (ex.trans k.f) S1
/-! comprehensions -/
/-- targets of a comprehension: only the slots vs are stored, and the heap stays -/
def Gc (P : Program) (w : World) (K : PySem.W.Frag) (g : TG) (vs : List Nat) (d : Dt) (env env' : En) : Prop := ∀ F0 H0 F H (σ : L2.St) v, Sm P w K F0 H0 F H (L2.wipe σ vs) env → Rp K F d v → ∀ Q : L2.St → Hp → Prop, (∀ σ', L2.wipe σ' vs = L2.wipe σ vs → (∀ a, Own σ' env' a → Own (L2.wipe σ vs) env a) → Sm P w K F0 H0 F H σ' env' → Q σ' H) → g v (L2.wipe σ vs) H Q
theorem own_set {σ : L2.St} {j : Nat} {v : V} {a : Addr} (h : Own (σ.set j (some v)) (env.set j (.d d)) a) : Own σ env a := by
  obtain ⟨i, t, u, h1, h2⟩ := h
  rcases get_set h1 with ⟨_, z, _⟩ | ⟨ne, h1⟩
  · cases z
  · rw [set_ne ne] at h2
    exact ⟨i, t, u, h1, h2⟩
theorem own_unset {σ : L2.St} {j : Nat} {a : Addr} (h : Own (σ.set j none) (env.set j .u) a) : Own σ env a := by
  obtain ⟨i, t, u, h1, h2⟩ := h
  rcases get_set h1 with ⟨_, z, _⟩ | ⟨ne, h1⟩
  · cases z
  · rw [set_ne ne] at h2
    exact ⟨i, t, u, h1, h2⟩
theorem gc_name {j : Nat} : Gc P w K (gName j) [j] d env (env.set j (.d d)) := fun F0 H0 F H σ v S r Q q => q _ (by simp [L2.wipe, List.set_set]) (fun _ h => own_set h) (S.setD r)
/-- (a, b) -/
theorem gc_two {j k : Nat} {d1 d2 : Dt} (ne : j ≠ k) : Gc P w K (gTup K 2 (gCons (gName j) (gCons (gName k) gNil))) [j, k] (.tup [d1, d2]) env ((env.set j (.d d1)).set k (.d d2)) := fun F0 H0 F H σ v S r Q q => by
  obtain ⟨a, vs, rfl, h1, v1, r1, rfl, q1, v2, r2, rfl, q2, e⟩ := r
  cases e
  refine ⟨a, _, rfl, ex_t S.sub h1, rfl, v1, _, rfl, v2, _, rfl, rfl, q _ ?_ (fun _ h => own_set (own_set h)) ((S.setD q1).setD q2)⟩
  apply List.ext_getElem?
  intro i
  simp only [L2.wipe, List.getElem?_set, List.length_set]
  by_cases e1 : j = i <;> by_cases e2 : k = i <;> simp [e1, e2]
/-- (a, b, c) -/
theorem gc_three {j k l : Nat} {d1 d2 d3 : Dt} : Gc P w K (gTup K 3 (gCons (gName j) (gCons (gName k) (gCons (gName l) gNil)))) [j, k, l] (.tup [d1, d2, d3]) env (((env.set j (.d d1)).set k (.d d2)).set l (.d d3)) := fun F0 H0 F H σ v S r Q q => by
  obtain ⟨a, vs, rfl, h1, v1, r1, rfl, q1, v2, r2, rfl, q2, v3, r3, rfl, q3, e⟩ := r
  cases e
  refine ⟨a, _, rfl, ex_t S.sub h1, rfl, v1, _, rfl, v2, _, rfl, v3, _, rfl, rfl, q _ ?_ (fun _ h => own_set (own_set (own_set h))) (((S.setD q1).setD q2).setD q3)⟩
  apply List.ext_getElem?
  intro i
  simp only [L2.wipe, List.getElem?_set, List.length_set]
  by_cases e1 : j = i <;> by_cases e2 : k = i <;> by_cases e3 : l = i <;> simp [e1, e2, e3]
def wipeE (e : En) : List Nat → En
  | [] => e
  | j :: r => (wipeE e r).set j .u
theorem Sm.wipe {F0 H0 F H : Hp} {σ : L2.St} {env : En} (S : Sm P w K F0 H0 F H σ env) : ∀ vs : List Nat, Sm P w K F0 H0 F H (L2.wipe σ vs) (wipeE env vs)
  | [] => S
  | j :: r => (Sm.wipe S r).setU j
theorem own_wipe {σ : L2.St} {env : En} {a : Addr} : ∀ {vs : List Nat}, Own (L2.wipe σ vs) (wipeE env vs) a → Own σ env a
  | [], h => h
  | j :: r, h => own_wipe (vs := r) (own_unset h)
/-- a list comprehension whose parts change nothing -/
theorem np_lcT {α : Type} {tt : TT} {vs : List Nat} (xs : List α) (dec : α → Dt) (hI : Ip P w K wi env (xs.map dec)) (hn : xs.length ≤ 40000) (p : α → Bool) (v : α → Dt)
    (hs : ∀ (i : Nat) (a : α), xs[i]? = some a → ∃ e1, Gc P w K g vs (dec a) (wipeE env vs) e1 ∧ Tp P w K tt e1 (p a) ∧ (p a = true → Ep P w K te e1 (v a))) : EpN P w K (tLc wi g tt te vs) env ((xs.filter p).map v) := fun F0 H0 F H σ S Q q =>
  hI F0 H0 F H σ S _ fun J F1 H1 k1 W D hD => by
    have nF : F1 D = none := none_sub k1.s hD
    have S1 := S.wk k1
    have n0 : H0 D = none := none_sub S1.g.h hD
    have nO : ¬ Own σ env D := S1.ownNew hD
    refine lc_it W (fun i H2 => ∃ F2 acc, Ex F1 F2 ∧ F2 D = none ∧ H2 D = some (.lst acc) ∧ RpL K F2 (((xs.take i).filter p).map v) acc ∧ Sm P w K F0 H0 F2 H2 σ env ∧ Ex H1 H2 ∧ (∀ a o, H1 a = some o → F1 a = none → F2 a = none))
      ⟨F1, [], Ex.refl F1, nF, upd_same, rfl, S1.upd _ nF n0 nO, Ex.new hD, fun _ _ _ n => n⟩ (fun i H2 _ h => ?_) (fun i x H2 H2' hi h y => ?_) (fun H2 h => ?_)
    · obtain ⟨F2, acc, e2, _, _, _, S2, _⟩ := h
      exact e2.trans S2.sub
    · obtain ⟨F2, acc, e2, d2, h2, r2, S2, x2, n2⟩ := h
      obtain ⟨F3, d', w3, hd', r3⟩ := y F2 e2 S2.sub
      rw [List.length_map] at hi
      rw [List.getElem?_map, List.getElem?_eq_getElem hi] at hd'
      obtain ⟨d, hd⟩ : ∃ d, xs[i]? = some d := ⟨_, List.getElem?_eq_getElem hi⟩
      have : d' = dec d := by
        rw [List.getElem?_eq_getElem hi] at hd
        cases hd
        exact (Option.some.inj hd').symm
      subst this
      obtain ⟨e1, hg, ht, he⟩ := hs i d hd
      have etake : xs.take (i + 1) = xs.take i ++ [d] := by
        rw [List.take_add_one, hd]
        rfl
      refine hg F0 H0 F3 H2' σ x ((S2.wk w3).wipe vs) r3 _ fun σ' hw _ S3 => ⟨hw, ?_⟩
      refine ht F0 H0 F3 H2' _ S3 _ fun F4 H4 w4 => ?_
      have hD4 : H4 D = some (.lst acc) := w4.h D _ (w3.h D _ h2)
      cases hp : p d with
      | true =>
        show te σ' H4 _
        refine he hp F0 H0 F4 H4 _ (S3.wk w4) _ fun vv F5 H5 w5 r5 => ?_
        have hD5 : H5 D = some (.lst acc) := w5.h D _ hD4
        have w35 : Wk F2 H2 F5 H5 := (w3.trans w4).trans w5
        have dF5 : F5 D = none := w35.n D _ h2 d2
        have hlen : acc.length < sizeLine := by
          rw [← r2.length, List.length_map]
          have h1 := List.length_filter_le p (xs.take i)
          have h2 : (xs.take i).length ≤ i := by simp; omega
          exact sz_lt (by omega)
        refine ⟨acc, hD5, hlen, F5, acc ++ [vv], e2.trans w35.f, dF5, upd_same, ?_, (S2.wk w35).upd _ dF5 n0 nO, fun a o h => ?_, fun a o h h' => w35.n a o (x2 a o h) (n2 a o h h')⟩
        · rw [etake, List.filter_append, List.map_append]
          refine RpL.append (r2.mono w35.f) ?_
          rw [List.filter_cons, if_pos hp]
          exact RpL.cons r5 RpL.nil
        · rw [upd_ne (ne_of_none h hD)]
          exact w35.h a o (x2 a o h)
      | false =>
        have w34 : Wk F2 H2 F4 H4 := w3.trans w4
        refine ⟨F4, acc, e2.trans w34.f, w34.n D _ h2 d2, hD4, ?_, S2.wk w34, x2.trans w34.h, fun a o h h' => w34.n a o (x2 a o h) (n2 a o h h')⟩
        rw [etake, List.filter_append, List.map_append, List.filter_cons, if_neg (by simp [hp])]
        show RpL K F4 (((xs.take i).filter p).map v ++ []) acc
        rw [List.append_nil]
        exact r2.mono w34.f
    · obtain ⟨F2, acc, e2, d2, h2, r2, S2, x2, n2⟩ := h
      rw [List.length_map, List.take_length] at r2
      exact q D acc F2 H2 (k1.trans ⟨e2, x2, S2.sub, n2⟩) (none_sub k1.h hD) d2 h2 r2
theorem np_lcG {tt : TT} {vs : List Nat} (hI : Ip P w K wi env ds) (hn : ds.length ≤ 40000) (p : Dt → Bool) (v : Dt → Dt)
    (hs : ∀ d ∈ ds, ∃ e1, Gc P w K g vs d (wipeE env vs) e1 ∧ Tp P w K tt e1 (p d) ∧ (p d = true → Ep P w K te e1 (v d))) : EpN P w K (tLc wi g tt te vs) env ((ds.filter p).map v) :=
  np_lcT ds id (by rw [List.map_id]; exact hI) hn p v fun i a h => hs a (List.mem_of_getElem? h)
theorem tp_yes : Tp P w K tYes env true := fun F0 H0 F H σ S Q q => q F H (Wk.refl S.sub)
theorem np_lc {tt : TT} {j : Nat} (hI : Ip P w K wi env ds) (hn : ds.length ≤ 40000) (p : Dt → Bool) (v : Dt → Dt) (ht : ∀ d ∈ ds, Tp P w K tt (env.set j (.d d)) (p d)) (he : ∀ d ∈ ds, p d = true → Ep P w K te (env.set j (.d d)) (v d)) :
    EpN P w K (tLc wi (gName j) tt te [j]) env ((ds.filter p).map v) := np_lcG hI hn p v fun d hd => ⟨_, gc_name, by rw [show wipeE env [j] = env.set j .u from rfl, List.set_set]; exact ⟨ht d hd, he d hd⟩⟩
theorem np_map {j : Nat} (hI : Ip P w K wi env ds) (hn : ds.length ≤ 40000) (v : Dt → Dt) (he : ∀ d ∈ ds, Ep P w K te (env.set j (.d d)) (v d)) : EpN P w K (tLc wi (gName j) tYes te [j]) env (ds.map v) := by
  have h := np_lc (te := te) (j := j) hI hn (fun _ => true) v (fun d _ => tp_yes) fun d hd _ => he d hd
  have e : ds.filter (fun _ => true) = ds := by simp
  rw [e] at h
  exact h
/-- .. over a typed list -/
theorem np_mapT {α : Type} {j : Nat} (xs : List α) (dec : α → Dt) (hI : Ip P w K wi env (xs.map dec)) (hn : xs.length ≤ 40000) (v : α → Dt) (he : ∀ (i : Nat) (a : α), xs[i]? = some a → Ep P w K te (env.set j (.d (dec a))) (v a)) : EpN P w K (tLc wi (gName j) tYes te [j]) env (xs.map v) := by
  have h := np_lcT (te := te) (vs := [j]) (g := gName j) (tt := tYes) xs dec hI hn (fun _ => true) v fun i a h => ⟨_, gc_name, tp_yes, fun _ => by rw [show wipeE env [j] = env.set j .u from rfl, List.set_set]; exact he i a h⟩
  have e : xs.filter (fun _ => true) = xs := by simp
  rw [e] at h
  exact h
theorem np_filT {α : Type} {j : Nat} {tt : TT} (xs : List α) (dec : α → Dt) (hI : Ip P w K wi env (xs.map dec)) (hn : xs.length ≤ 40000) (p : α → Bool) (v : α → Dt) (ht : ∀ (i : Nat) (a : α), xs[i]? = some a → Tp P w K tt (env.set j (.d (dec a))) (p a)) (he : ∀ (i : Nat) (a : α), xs[i]? = some a → p a = true → Ep P w K te (env.set j (.d (dec a))) (v a)) : EpN P w K (tLc wi (gName j) tt te [j]) env ((xs.filter p).map v) :=
  np_lcT (te := te) (vs := [j]) (g := gName j) xs dec hI hn p v fun i a h => ⟨_, gc_name, by rw [show wipeE env [j] = env.set j .u from rfl, List.set_set]; exact ⟨ht i a h, he i a h⟩⟩
theorem np_rng {j n : Nat} (h : EpA P w K tA env [.int (n : Int)]) (hn : n ≤ 40000) (v : Nat → Dt) (he : ∀ i : Nat, i < n → Ep P w K te (env.set j (.d (.int (i : Int)))) (v i)) : EpN P w K (tLc (iRng1 tA) (gName j) tYes te [j]) env ((List.range n).map v) := by
  have hl : (rangeD 0 (n : Int).toNat).length ≤ 40000 := by rw [rangeD_nat]; simpa using hn
  have h1 := np_map (te := te) (j := j) (ip_rng1 h (by omega)) hl (fun d => match d with | .int x => v x.toNat | _ => .non) fun d hd => by
    rw [rangeD_nat] at hd
    obtain ⟨i, hi, rfl⟩ := List.mem_map.mp hd
    exact he i (by simpa using hi)
  rw [rangeD_nat, List.map_map] at h1
  exact h1
end
end Qw

set_option maxHeartbeats 1000000
/-! ### dicts with ints and texts as keys, sets, lists of one's own read -/
namespace Qw
open PySem PySem.Spec PyProof.Rows L2 Evl
open Pw (Dt Rp RpL Wk none_sub get_set set_same set_ne R2d R1d RLd RLn Kq KqL truD isEmpty_rp flatD fl py pyL rangeD rangeD_len charsD wl_at Wl wl_range rangeD_nat find_split itemD)
abbrev KD := List (Key × Dt)
abbrev dk (kvs : KD) : Dt := .dic (kvs.map Prod.fst) (kvs.map Prod.snd)
abbrev Ow.dk (kvs : KD) : Ow := .dic (kvs.map Prod.fst) (kvs.map Prod.snd)
def valD (kvs : KD) (k : Key) : Option Dt := (kvs.find? fun kv => decide (kv.1 = k)).map (·.2)
def putD (kvs : KD) (k : Key) (d : Dt) : KD := if (kvs.any fun kv => decide (kv.1 = k)) = true then kvs.map (fun kv => if kv.1 = k then (kv.1, d) else kv) else kvs ++ [(k, d)]
def kD : Key → Dt
  | .inl i => .int i
  | .inr x => .str x
theorem kD_rp {K : PySem.W.Frag} {F : Hp} {k : Key} {v : V} (h : Rp K F (kD k) v) : v = kV k := by cases k <;> exact h
section
variable {K : PySem.W.Frag} {F : Hp}
def PrD (K : PySem.W.Frag) (F : Hp) (kvs : KD) (q : List (Key × V)) : Prop := q.map Prod.fst = kvs.map Prod.fst ∧ RpL K F (kvs.map Prod.snd) (q.map Prod.snd)
theorem prD_of {kvs : KD} {vs : List V} (r : RpL K F (kvs.map Prod.snd) vs) : PrD K F kvs ((kvs.map Prod.fst).zip vs) := by
  have h := r.length
  refine ⟨?_, ?_⟩
  · rw [List.map_fst_zip]
    simpa using Nat.le_of_eq h
  · rw [List.map_snd_zip]
    · exact r
    · simpa using Nat.le_of_eq h.symm
theorem prD_zip {kvs : KD} {q : List (Key × V)} (h : PrD K F kvs q) : q = (kvs.map Prod.fst).zip (q.map Prod.snd) := by
  rw [← h.1]
  exact (List.zip_unzip q).symm.trans (by rw [List.unzip_eq_map])
theorem PrD.cons {k : Key} {d : Dt} {v : V} {kvs : KD} {q : List (Key × V)} (r : Rp K F d v) (h : PrD K F kvs q) : PrD K F ((k, d) :: kvs) ((k, v) :: q) := ⟨by simp [h.1], v, _, rfl, r, h.2⟩
theorem PrD.inv {p : Key × Dt} {kvs : KD} {q : List (Key × V)} (h : PrD K F (p :: kvs) q) : ∃ v q', q = (p.1, v) :: q' ∧ Rp K F p.2 v ∧ PrD K F kvs q' := by
  obtain ⟨h1, v, r, h2, h3, h4⟩ := h
  cases q with
  | nil => cases h2
  | cons a q =>
    cases h2
    simp only [List.map_cons, List.cons.injEq] at h1
    exact ⟨a.2, q, by rw [← h1.1], h3, h1.2, h4⟩
theorem PrD.nil {q : List (Key × V)} (h : PrD K F [] q) : q = [] := by
  obtain ⟨h1, _⟩ := h
  simpa using h1
theorem PrD.val : ∀ {kvs : KD} {q : List (Key × V)} (k : Key), PrD K F kvs q → (valD kvs k = none ∧ valV q k = none) ∨ ∃ d v, valD kvs k = some d ∧ valV q k = some v ∧ Rp K F d v
  | [], q, k, h => by
    rw [h.nil]
    exact .inl ⟨rfl, rfl⟩
  | p :: kvs, q, k, h => by
    obtain ⟨v, q', rfl, r, t⟩ := h.inv
    by_cases e : p.1 = k
    · exact .inr ⟨p.2, v, by simp [valD, List.find?_cons, e], by rw [valV_pos e], r⟩
    · rw [valV_neg e, show valD (p :: kvs) k = valD kvs k by simp [valD, List.find?_cons, e]]
      exact PrD.val k t
theorem PrD.any (k : Key) : ∀ {kvs : KD} {q : List (Key × V)}, PrD K F kvs q → (kvs.any fun kv => decide (kv.1 = k)) = (q.any fun kv => decide (kv.1 = k))
  | [], q, h => by rw [h.nil]; rfl
  | p :: kvs, q, h => by
    obtain ⟨v, q', rfl, r, t⟩ := h.inv
    rw [List.any_cons, List.any_cons, PrD.any k t]
theorem PrD.over {d : Dt} {v : V} (k : Key) (r : Rp K F d v) : ∀ {kvs : KD} {q : List (Key × V)}, PrD K F kvs q → PrD K F (kvs.map fun kv => if kv.1 = k then (kv.1, d) else kv) (q.map fun kv => if kv.1 = k then (kv.1, v) else kv)
  | [], q, h => by rw [h.nil]; exact ⟨rfl, rfl⟩
  | p :: kvs, q, h => by
    obtain ⟨u, q', rfl, r', t⟩ := h.inv
    simp only [List.map_cons]
    by_cases e : p.1 = k
    · rw [if_pos e, if_pos e]
      exact .cons r (PrD.over k r t)
    · rw [if_neg e, if_neg e]
      exact .cons r' (PrD.over k r t)
theorem PrD.put {kvs : KD} {q : List (Key × V)} {d : Dt} {v : V} (k : Key) (h : PrD K F kvs q) (r : Rp K F d v) : PrD K F (putD kvs k d) (putK q k v) := by
  unfold putD putK
  rw [h.any k]
  split
  · exact PrD.over k r h
  · refine ⟨by simp [h.1], ?_⟩
    rw [List.map_append, List.map_append]
    exact RpL.append h.2 ⟨v, [], rfl, r, rfl⟩
theorem PrD.mono {F' : Hp} {kvs : KD} {q : List (Key × V)} (e : Ex F F') (h : PrD K F kvs q) : PrD K F' kvs q := ⟨h.1, h.2.mono e⟩
theorem PrD.length {kvs : KD} {q : List (Key × V)} (h : PrD K F kvs q) : kvs.length = q.length := by
  have := congrArg List.length h.1
  simpa using this.symm
end
section
variable {P : Program} {w : World} {K : PySem.W.Frag} {env env1 env2 env3 : En} {ta tb td ty te tc tl : TE} {t u : TT} {d e z : Dt} {s s1 s2 : TS} {o : Out} {g : TG} {tA : TA} {ds : List Dt} {wi : TI} {kvs : KD} {k : Key}
theorem dk_at {F : Hp} {v : V} (h : Rp K F (dk kvs) v) : ∃ a q, v = .ref a ∧ F a = some (.dK q) ∧ PrD K F kvs q := by
  obtain ⟨a, vs, rfl, h1, h2, h3⟩ := h
  exact ⟨a, _, rfl, h1, prD_of h3⟩
theorem odk_at {F : Hp} {a : Addr} {ho : HO} (h : OwOk P w K F a (.dk kvs) ho) : ∃ q, ho = .dK q ∧ PrD K F kvs q := by
  obtain ⟨vs, rfl, h2, h3⟩ := h
  exact ⟨_, rfl, prD_of h3⟩
theorem odk_of {F : Hp} {a : Addr} {q : List (Key × V)} (h : PrD K F kvs q) : OwOk P w K F a (.dk kvs) (.dK q) := ⟨q.map Prod.snd, by rw [← prD_zip h], by simpa using h.length, h.2⟩
theorem dk_of {F : Hp} {a : Addr} {q : List (Key × V)} (hF : F a = some (.dK q)) (h : PrD K F kvs q) : Rp K F (dk kvs) (.ref a) := ⟨a, q.map Prod.snd, rfl, by rw [← prD_zip h]; exact hF, by simpa using h.length, h.2⟩
/-- an expression that gives a dict: data, or one's own -/
def Edk (P : Program) (w : World) (K : PySem.W.Frag) (te : TE) (env : En) (kvs : KD) : Prop := ∀ F0 H0 F H σ, Sm P w K F0 H0 F H σ env → ∀ Q : VK, (∀ a q F' H', Wk F H F' H' → (∀ F2 H2, Wk F' H' F2 H2 → H2 a = some (.dK q)) → PrD K F' kvs q → Q (.ref a) H') → te σ H Q
theorem edk_d (h : Ep P w K te env (dk kvs)) : Edk P w K te env kvs := fun F0 H0 F H σ S Q q => h F0 H0 F H σ S Q fun v F1 H1 k1 r => by
  obtain ⟨a, qs, rfl, h1, h2⟩ := dk_at r
  exact q a qs F1 H1 k1 (fun F2 H2 k2 => k2.h a _ (k1.s a _ h1)) h2
theorem edk_o {i : Nat} {t' : Option Addr} (hi : env[i]? = some (.ow t' (.dk kvs)) := by rfl) : Edk P w K (tVar i) env kvs := fun F0 H0 F H σ S Q q => by
  obtain ⟨a, ho, e1, _, g1, g2, g3, g4⟩ := S.own hi
  obtain ⟨qs, rfl, h2⟩ := odk_at g4
  exact ⟨_, e1, q a qs F H (Wk.refl S.sub) (fun F2 H2 k2 => k2.h a _ g3) h2⟩
theorem ep_dget (h : Edk P w K td env kvs) (hk : Ep P w K ty env (kD k)) (hv : valD kvs k = some d) : Ep P w K (tDGet td ty) env d := fun F0 H0 F H σ S Q q =>
  h F0 H0 F H σ S _ fun a qs F1 H1 k1 st r => hk F0 H0 F1 H1 σ (S.wk k1) _ fun y F2 H2 k2 r2 => by
    rcases r.val k with ⟨z, _⟩ | ⟨d', v, e1, e2, r3⟩
    · rw [hv] at z; cases z
    · rw [hv] at e1
      cases e1
      rw [kD_rp r2]
      exact ⟨a, v, rfl, by rw [← e2]; exact DGet.k (st F2 H2 k2), q v F2 H2 (k1.trans k2) (r3.mono k2.f)⟩
theorem ep_din (h : Edk P w K td env kvs) (hk : Ep P w K ty env (kD k)) : Ep P w K (tDIn ty td) env (.bl (valD kvs k).isSome) := fun F0 H0 F H σ S Q q =>
  hk F0 H0 F H σ S _ fun y F1 H1 k1 r1 => h F0 H0 F1 H1 σ (S.wk k1) _ fun a qs F2 H2 k2 st r => by
    rw [kD_rp r1]
    refine ⟨a, _, rfl, DGet.k (st F2 H2 (Wk.refl k2.s)), ?_⟩
    have e : (valV qs k).isSome = (valD kvs k).isSome := by
      rcases r.val k with ⟨e1, e2⟩ | ⟨d', v, e1, e2, _⟩ <;> rw [e1, e2] <;> rfl
    rw [e]
    exact q _ F2 H2 (k1.trans k2) rfl
theorem ep_dni (h : Edk P w K td env kvs) (hk : Ep P w K ty env (kD k)) : Ep P w K (tDNotIn ty td) env (.bl (!(valD kvs k).isSome)) := fun F0 H0 F H σ S Q q =>
  hk F0 H0 F H σ S _ fun y F1 H1 k1 r1 => h F0 H0 F1 H1 σ (S.wk k1) _ fun a qs F2 H2 k2 st r => by
    rw [kD_rp r1]
    refine ⟨a, _, rfl, DGet.k (st F2 H2 (Wk.refl k2.s)), ?_⟩
    have e : (valV qs k).isSome = (valD kvs k).isSome := by
      rcases r.val k with ⟨e1, e2⟩ | ⟨d', v, e1, e2, _⟩ <;> rw [e1, e2] <;> rfl
    rw [e]
    exact q _ F2 H2 (k1.trans k2) rfl
/-- d.get(k, x), the dict data or one's own, k and x perhaps changing other things -/
theorem ee_dget2 (hk : Ee P w K ty env (kD k) env1) (hx : Ep P w K te env1 e) (hd : Ep P w K td env (dk kvs)) : Ee P w K (tDGet2 td ty te) env ((valD kvs k).getD e) env1 := ⟨hk.1, fun F0 H0 F H σ S Q q =>
  hd F0 H0 F H σ S _ fun v F1 H1 k1 r => by
    obtain ⟨a, qs, rfl, h1, h2⟩ := dk_at r
    refine ⟨a, rfl, .inl ⟨qs, .inl (k1.s a _ h1)⟩, hk.2 F0 H0 F1 H1 σ (S.wk k1) _ fun y F2 H2 k2 S2 r2 => hx F0 H0 F2 H2 σ S2 _ fun x F3 H3 k3 r3 => ?_⟩
    rw [kD_rp r2]
    refine ⟨_, DGet.k (k3.s a _ (k3.f _ _ (k2.f _ _ h1))), ?_⟩
    have w1 : Wo σ env F H F3 H3 := (Wo.of k1).trans Sh.refl (k2.trans hk.1 (.of k3))
    rcases h2.val k with ⟨e1, e2⟩ | ⟨d', v, e1, e2, r4⟩
    · rw [e2]
      rw [e1] at q
      exact q x F3 H3 w1 (S2.wk k3) r3
    · rw [e2]
      rw [e1] at q
      exact q v F3 H3 w1 (S2.wk k3) (r4.mono (k2.f.trans k3.f))⟩
theorem ep_dget2 (h : Edk P w K td env kvs) (hk : Ep P w K ty env (kD k)) (hx : Ep P w K te env e) : Ep P w K (tDGet2 td ty te) env ((valD kvs k).getD e) := fun F0 H0 F H σ S Q q =>
  h F0 H0 F H σ S _ fun a qs F1 H1 k1 st h2 => by
    refine ⟨a, rfl, .inl ⟨qs, .inl (st F1 H1 (Wk.refl k1.s))⟩, hk F0 H0 F1 H1 σ (S.wk k1) _ fun y F2 H2 k2 r2 => hx F0 H0 F2 H2 σ ((S.wk k1).wk k2) _ fun x F3 H3 k3 r3 => ?_⟩
    rw [kD_rp r2]
    refine ⟨_, DGet.k (st F3 H3 (k2.trans k3)), ?_⟩
    rcases h2.val k with ⟨e1, e2⟩ | ⟨d', v, e1, e2, r4⟩
    · rw [e2]
      rw [e1] at q
      exact q x F3 H3 ((k1.trans k2).trans k3) r3
    · rw [e2]
      rw [e1] at q
      exact q v F3 H3 ((k1.trans k2).trans k3) (r4.mono (k2.f.trans k3.f))
/-- d[k] = v -/
theorem se_dput {i : Nat} {t' : Option Addr} (hv : Ee P w K te env d env1) (hk : Ep P w K ty env1 (kD k)) (hi : env1[i]? = some (.ow t' (.dk kvs)) := by rfl) (hz : kvs.length < 100000) : Se P w K (sDPut (tVar i) ty te) env (.nx (env1.set i (.ow t' (.dk (putD kvs k d))))) := fun F0 H0 F H σ D S p =>
  hv.2 F0 H0 F H σ S _ fun v F1 H1 k1 S1 r1 => by
    obtain ⟨a, ho, e1, _, g1, g2, g3, g4⟩ := S1.own hi
    refine ⟨_, e1, hk F0 H0 F1 H1 σ S1 _ fun y F2 H2 k2 r2 => ?_⟩
    obtain ⟨qs, rfl, h2⟩ := odk_at g4
    rw [kD_rp r2]
    exact ⟨a, _, rfl, DPut.k (k2.h a _ g3) (sz_lt (by rw [← h2.length]; exact hz)), p F2 _ σ (k1.f.trans k2.f) ((S1.wk k2).mut hi e1 (odk_of ((h2.mono k2.f).put k (r1.mono k2.f))))⟩
theorem po_dnew : EpO P w K tDNewK env (.dk []) := fun F0 H0 F H σ S Q q p hp => q p _ F (L2.upd H p (.dK [])) (Wk.own S.sub _ hp) hp (none_sub S.sub hp) upd_same (odk_of ⟨rfl, rfl⟩)
/-- {k: v for ..} -/
theorem po_dc {α : Type} {tt : TT} {vs : List Nat} (xs : List α) (dec : α → Dt) (hI : Ip P w K wi env (xs.map dec)) (hn : xs.length ≤ 40000) (p : α → Bool) (kf : α → Key) (vf : α → Dt)
    (hs : ∀ (i : Nat) (a : α), xs[i]? = some a → ∃ e1, Gc P w K g vs (dec a) (wipeE env vs) e1 ∧ Tp P w K tt e1 (p a) ∧ (p a = true → Ep P w K ty e1 (kD (kf a)) ∧ Ep P w K te e1 (vf a))) : EpO P w K (tDc wi g tt ty te vs) env (.dk ((xs.filter p).foldl (fun q a => putD q (kf a) (vf a)) [])) := fun F0 H0 F H σ S Q q =>
  hI F0 H0 F H σ S _ fun J F1 H1 k1 W D hD => by
    have nF : F1 D = none := none_sub k1.s hD
    have S1 := S.wk k1
    have n0 : H0 D = none := none_sub S1.g.h hD
    have nO : ¬ Own σ env D := S1.ownNew hD
    have small : ∀ (l : List α) (q : KD), (l.foldl (fun q a => putD q (kf a) (vf a)) q).length ≤ q.length + l.length := by
      intro l
      induction l with
      | nil => intro q; exact Nat.le_refl _
      | cons a l ih =>
        intro q
        have h1 : (putD q (kf a) (vf a)).length ≤ q.length + 1 := by
          unfold putD
          split <;> simp
        have := ih (putD q (kf a) (vf a))
        simp only [List.foldl_cons, List.length_cons]
        omega
    refine ⟨fun i m H2 => m = xs.length - i ∧ i ≤ xs.length ∧ ∃ F2 acc, Ex F1 F2 ∧ F2 D = none ∧ H2 D = some (.dK acc) ∧ PrD K F2 (((xs.take i).filter p).foldl (fun q a => putD q (kf a) (vf a)) []) acc ∧ Sm P w K F0 H0 F2 H2 σ env ∧ Ex H1 H2 ∧ (∀ a o, H1 a = some o → F1 a = none → F2 a = none),
      ⟨xs.length, by simp, Nat.zero_le _, F1, [], Ex.refl F1, nF, upd_same, ⟨rfl, rfl⟩, S1.upd _ nF n0 nO, Ex.new hD, fun _ _ _ n => n⟩, ?_⟩
    rintro i m H2 ⟨rfl, hi, F2, acc, e2, d2, h2, r2, S2, x2, n2⟩
    have W' := W
    unfold Wl at W'
    rw [List.length_map] at W'
    by_cases hlt : i < xs.length
    · refine .inr ⟨W'.goes i H2 hlt (e2.trans S2.sub), fun H' => ∃ F2 acc, Ex F1 F2 ∧ F2 D = none ∧ H' D = some (.dK acc) ∧ PrD K F2 (((xs.take (i + 1)).filter p).foldl (fun q a => putD q (kf a) (vf a)) []) acc ∧ Sm P w K F0 H0 F2 H' σ env ∧ Ex H1 H' ∧ (∀ a o, H1 a = some o → F1 a = none → F2 a = none), fun H' q => ⟨xs.length - (i + 1), by omega, rfl, hlt, q⟩, fun x H2' y => ?_⟩
      obtain ⟨F3, d', w3, hd', r3⟩ := W'.yields i H2 x H2' hlt (e2.trans S2.sub) y F2 e2 S2.sub
      rw [List.getElem?_map, List.getElem?_eq_getElem hlt] at hd'
      obtain ⟨a, ha⟩ : ∃ a, xs[i]? = some a := ⟨_, List.getElem?_eq_getElem hlt⟩
      have : d' = dec a := by
        rw [List.getElem?_eq_getElem hlt] at ha
        cases ha
        exact (Option.some.inj hd').symm
      subst this
      obtain ⟨e1, hg, ht, he⟩ := hs i a ha
      have etake : xs.take (i + 1) = xs.take i ++ [a] := by
        rw [List.take_add_one, ha]
        rfl
      refine hg F0 H0 F3 H2' σ x ((S2.wk w3).wipe vs) r3 _ fun σ' hw _ S3 => ⟨hw, ?_⟩
      refine ht F0 H0 F3 H2' _ S3 _ fun F4 H4 w4 => ?_
      have hD4 : H4 D = some (.dK acc) := w4.h D _ (w3.h D _ h2)
      rw [etake, List.filter_append, List.foldl_append]
      cases hp : p a with
      | true =>
        show ty σ' H4 _
        obtain ⟨he1, he2⟩ := he hp
        refine he1 F0 H0 F4 H4 _ (S3.wk w4) _ fun yv F5 H5 w5 r5 => he2 F0 H0 F5 H5 _ ((S3.wk w4).wk w5) _ fun vv F6 H6 w6 r6 => ?_
        have hD6 : H6 D = some (.dK acc) := w6.h D _ (w5.h D _ hD4)
        have w36 : Wk F2 H2 F6 H6 := ((w3.trans w4).trans w5).trans w6
        have dF6 : F6 D = none := w36.n D _ h2 d2
        rw [kD_rp r5]
        refine ⟨acc, kf a, rfl, hD6, ?_, F6, _, e2.trans w36.f, dF6, upd_same, ?_, (S2.wk w36).upd _ dF6 n0 nO, fun a o h => ?_, fun a o h h' => w36.n a o (x2 a o h) (n2 a o h h')⟩
        · rw [← r2.length]
          have h1 := small ((xs.take i).filter p) []
          have h3 := List.length_filter_le p (xs.take i)
          have h4 : (xs.take i).length ≤ i := by simp; omega
          simp only [List.length_nil] at h1
          exact sz_lt (by omega)
        · rw [List.filter_cons, if_pos hp]
          exact (r2.mono w36.f).put _ r6
        · rw [upd_ne (ne_of_none h hD)]
          exact w36.h a o (x2 a o h)
      | false =>
        have w34 : Wk F2 H2 F4 H4 := w3.trans w4
        refine ⟨F4, acc, e2.trans w34.f, w34.n D _ h2 d2, hD4, ?_, S2.wk w34, x2.trans w34.h, fun a o h h' => w34.n a o (x2 a o h) (n2 a o h h')⟩
        rw [List.filter_cons, if_neg (by simp [hp])]
        exact r2.mono w34.f
    · have e : i = xs.length := by omega
      subst e
      rw [List.take_length] at r2
      exact .inl ⟨W'.stops H2 (e2.trans S2.sub), q D _ F2 H2 (k1.trans ⟨e2, x2, S2.sub, n2⟩) (none_sub k1.h hD) d2 h2 (odk_of r2)⟩
end
end Qw

set_option maxHeartbeats 1000000
/-! ### defs, methods, classes, exceptions, by name -/
namespace Qw
open PySem PySem.Spec PyProof.Rows L2 Evl
open Pw (Dt Rp RpL Wk none_sub get_set set_same set_ne R2d R1d RLd RLn Kq KqL truD isEmpty_rp flatD fl py pyL rangeD rangeD_len charsD wl_at Wl wl_range rangeD_nat find_split itemD spX2 Xm Xm0)
/-- the def x of the text stands behind the top as st tells it -/
def Dx (K : PySem.W.Frag) (mg : Str → Option Value) (x : Str) (ps : List Str) (st : Stmt) : Prop :=
  ∃ f fd, mg x = some (.ref f) ∧ FunD K x x (defArgs st) (defBody st) (defScope st) [] [] f fd ∧ Binds K fd ps []
/-- x is called by name and keeps sp; it may raise as sp tells -/
def Fx (P : Program) (w : World) (K : PySem.W.Frag) (mg : Str → Option Value) (base : Heap) (k : Nat) (x : Str) (ps : List Str) (sp : Sp) : Prop :=
  ∃ f fd, mg x = some (.ref f) ∧ PySem.W.keepIn K (.ref f) = true ∧ Binds K fd ps [] ∧ FnOk P w K mg base (L2.CX P w) k f fd ps sp
/-- a method's def, of the class at C, its full name q -/
def Dm (K : PySem.W.Frag) (C : Addr) (m q : Str) (ps : List Str) (st : Stmt) : Prop :=
  ∃ f fd, Meth K C m f ∧ FunD K m q (defArgs st) (defBody st) (defScope st) [] [] f fd ∧ Binds K fd ps []
def Mx (P : Program) (w : World) (K : PySem.W.Frag) (mg : Str → Option Value) (base : Heap) (k : Nat) (C : Addr) (m : Str) (ps : List Str) (sp : Sp) : Prop :=
  ∃ f fd, Meth K C m f ∧ Binds K fd ps [] ∧ FnOk P w K mg base (L2.CX P w) k f fd ps sp
/-- the __init__ of the class x at C -/
def Di (K : PySem.W.Frag) (mg : Str → Option Value) (C : Addr) (x q : Str) (ps : List Str) (st : Stmt) : Prop :=
  ∃ f fd, mg x = some (.ref C) ∧ Mk K C f ∧ FunD K "__init__" q (defArgs st) (defBody st) (defScope st) [] [] f fd ∧ Binds K fd ps []
def Ix (P : Program) (w : World) (K : PySem.W.Frag) (mg : Str → Option Value) (base : Heap) (k : Nat) (C : Addr) (x : Str) (ps : List Str) (sp : Sp) : Prop :=
  ∃ f fd, mg x = some (.ref C) ∧ Mk K C f ∧ Binds K fd ps [] ∧ FnOk P w K mg base (L2.CX P w) k f fd ps sp
section
variable {P : Program} {w : World} {K : PySem.W.Frag} {mg : Str → Option Value} {base : Heap} {R : List Dt → Rs → Prop}
theorem Fx.mono {j k : Nat} {x : Str} {ps : List Str} {sp : Sp} (F : Fx P w K mg base j x ps sp) (h : j ≤ k) : Fx P w K mg base k x ps sp := by
  obtain ⟨f, fd, h1, h2, h3, h4⟩ := F
  exact ⟨f, fd, h1, h2, h3, h4.mono h⟩
theorem Fx.imp {k : Nat} {x : Str} {ps : List Str} {sp sp' : Sp} (F : Fx P w K mg base k x ps sp) (h : ∀ vs H Q E, sp' vs H Q E → sp vs H Q E) : Fx P w K mg base k x ps sp' := by
  obtain ⟨f, fd, h1, h2, h3, h4⟩ := F
  exact ⟨f, fd, h1, h2, h3, h4.imp h⟩
/-- THE RULE: a def that raises nothing -/
theorem Fx.of {x : Str} {ps N : List Str} {st : Stmt} {k : Nat} (D : Dx K mg x ps st) (S : FnScope N ps (defScope st)) (hl : ∀ ds r, R ds r → ds.length = ps.length)
    (hb : ∀ (f : Addr) (cdv : Value) (A : Around) (outer : List Env) (s : Shared) (H : Hp) (E : XK), Room k (A.deeper (envOfC x (defScope st) s.heap.objs.size f cdv)) →
      ∃ t, PSs (cxOf (L2.CX P w) P w K mg base N x (defScope st) f cdv A outer s H E).nox (defBody st) t ∧ ∀ ds r, R ds r → Does P w K E t (ds.map Sl.d ++ List.replicate (N.length - ds.length) Sl.u) r) :
    Fx P w K mg base (k + 1) x ps (spR P w K R) := by
  obtain ⟨f, fd, h1, F, h3⟩ := D
  refine ⟨f, fd, h1, F.kp, h3, F.ok S (fun vs H Q E h => spR_len hl vs H Q E h) fun cdv A outer s H vs Q E hr h => ?_⟩
  obtain ⟨t, ht, hs⟩ := hb f cdv A outer s H E hr
  exact ⟨t, PSs.nox ht, run_r h hs⟩
/-- .. a def that may raise -/
theorem Fx.ofX {x : Str} {ps N : List Str} {st : Stmt} {k : Nat} (D : Dx K mg x ps st) (S : FnScope N ps (defScope st)) (hl : ∀ ds r, R ds r → ds.length = ps.length)
    (hb : ∀ (f : Addr) (cdv : Value) (A : Around) (outer : List Env) (s : Shared) (H : Hp) (E : XK), Room k (A.deeper (envOfC x (defScope st) s.heap.objs.size f cdv)) →
      Takes (cxOf (L2.CX P w) P w K mg base N x (defScope st) f cdv A outer s H E) (fun cls d _ H => E cls d H) →
      ∃ t, PSs (cxOf (L2.CX P w) P w K mg base N x (defScope st) f cdv A outer s H E) (defBody st) t ∧ ∀ ds r, R ds r → Does P w K E t (ds.map Sl.d ++ List.replicate (N.length - ds.length) Sl.u) r) :
    Fx P w K mg base (k + 1) x ps (spR P w K R) := by
  obtain ⟨f, fd, h1, F, h3⟩ := D
  refine ⟨f, fd, h1, F.kp, h3, F.ok S (fun vs H Q E h => spR_len hl vs H Q E h) fun cdv A outer s H vs Q E hr h => ?_⟩
  obtain ⟨t, ht, hs⟩ := hb f cdv A outer s H E hr (takes_of rfl rfl rfl rfl)
  exact ⟨t, ht, run_r h hs⟩
/-- .. any promise -/
theorem Fx.ofSp {x : Str} {ps N : List Str} {st : Stmt} {k : Nat} {sp : Sp} (D : Dx K mg x ps st) (S : FnScope N ps (defScope st)) (hl : ∀ vs H Q E, sp vs H Q E → vs.length = ps.length)
    (hb : ∀ (f : Addr) (cdv : Value) (A : Around) (outer : List Env) (s : Shared) (H : Hp) (E : XK), Room k (A.deeper (envOfC x (defScope st) s.heap.objs.size f cdv)) →
      ∃ t, PSs (cxOf (L2.CX P w) P w K mg base N x (defScope st) f cdv A outer s H E).nox (defBody st) t ∧ ∀ vs Q, sp vs H Q E → t { nx := fun _ H' => Q .non H', rt := Q } (L2.start N vs) H) :
    Fx P w K mg base (k + 1) x ps sp := by
  obtain ⟨f, fd, h1, F, h3⟩ := D
  refine ⟨f, fd, h1, F.kp, h3, F.ok S hl fun cdv A outer s H vs Q E hr h => ?_⟩
  obtain ⟨t, ht, hs⟩ := hb f cdv A outer s H E hr
  exact ⟨t, PSs.nox ht, hs vs Q h⟩
theorem Mx.of {C : Addr} {m q : Str} {ps N : List Str} {st : Stmt} {k : Nat} (D : Dm K C m q ps st) (S : FnScope N ps (defScope st)) (hl : ∀ ds r, R ds r → ds.length = ps.length)
    (hb : ∀ (f : Addr) (cdv : Value) (A : Around) (outer : List Env) (s : Shared) (H : Hp) (E : XK), Room k (A.deeper (envOfC q (defScope st) s.heap.objs.size f cdv)) →
      ∃ t, PSs (cxOf (L2.CX P w) P w K mg base N q (defScope st) f cdv A outer s H E).nox (defBody st) t ∧ ∀ ds r, R ds r → Does P w K E t (ds.map Sl.d ++ List.replicate (N.length - ds.length) Sl.u) r) :
    Mx P w K mg base (k + 1) C m ps (spR P w K R) := by
  obtain ⟨f, fd, h1, F, h3⟩ := D
  refine ⟨f, fd, h1, h3, F.ok S (fun vs H Q E h => spR_len hl vs H Q E h) fun cdv A outer s H vs Q E hr h => ?_⟩
  obtain ⟨t, ht, hs⟩ := hb f cdv A outer s H E hr
  exact ⟨t, PSs.nox ht, run_r h hs⟩
theorem Mx.mono {j k : Nat} {C : Addr} {m : Str} {ps : List Str} {sp : Sp} (F : Mx P w K mg base j C m ps sp) (h : j ≤ k) : Mx P w K mg base k C m ps sp := by
  obtain ⟨f, fd, h1, h3, h4⟩ := F
  exact ⟨f, fd, h1, h3, h4.mono h⟩
/-- the promise of an __init__: what it is given, the fields it stores (in their order), or what it raises -/
inductive Ri where
  | f (fs : List Str) (ds : List Dt) | x (x : Xn)
def spI (P : Program) (w : World) (K : PySem.W.Frag) (C : Addr) (R : List Dt → Ri → Prop) : Sp := fun vs H Q E => ∃ F p dx vs' ds r, vs = .ref p :: vs' ∧ Ex F H ∧ F p = none ∧ H p = some (.ins C dx []) ∧ RpL K F ds vs' ∧ R ds r ∧ (match r with
  | .f fs es => ∀ F' H' o, Ex F F' → Ex F' H' → (∀ a z, a ≠ p → H a = some z → H' a = some z) → (∀ a z, H a = some z → F a = none → F' a = none) → H' p = some o → OwOk P w K F' p (.ins C fs es) o → Q .non H'
  | .x y => ∀ od F' H', Ex F F' → Ex F' H' → (∀ a z, a ≠ p → H a = some z → H' a = some z) → (∀ a z, a ≠ p → H a = some z → F a = none → F' a = none) → XnOk K F' y od → E (.ref y.C) od H')
/-- H without p -/
def hide (H : Hp) (p : Addr) : Hp := fun a => if a = p then none else H a
theorem hide_same {H : Hp} {p : Addr} : hide H p p = none := if_pos rfl
theorem hide_ne {H : Hp} {p a : Addr} (h : a ≠ p) : hide H p a = H a := if_neg h
theorem hide_ex {H : Hp} {p : Addr} : Ex (hide H p) H := fun a u e => by
  by_cases z : a = p
  · subst z
    rw [hide_same] at e
    cases e
  · rwa [hide_ne z] at e
theorem ex_hide {F H : Hp} {p : Addr} (e : Ex F H) (h : F p = none) : Ex F (hide H p) := fun a u z => by
  rw [hide_ne (ne_of_none z h)]
  exact e a u z
/-- a body whose first slot is a thing of one's own at p -/
theorem Sm.startO {F H : Hp} {ds : List Dt} {vs : List V} {N : List Str} {p : Addr} {u : Ow} {o : HO} (e : Ex F H) (hF : F p = none) (hp : H p = some o) (ho : OwOk P w K F p u o) (r : RpL K F ds vs) :
    Sm P w K F (hide H p) F H (L2.start N (.ref p :: vs)) (Sl.ow (some p) u :: (ds.map Sl.d ++ List.replicate (N.length - (ds.length + 1)) Sl.u)) := by
  have hl := r.length
  have base : Sm P w K F (hide H p) F (hide H p) (List.map some vs ++ List.replicate (N.length - (ds.length + 1)) none) (ds.map Sl.d ++ List.replicate (N.length - (ds.length + 1)) Sl.u) := by
    refine ⟨ex_hide e hF, Wk.refl (ex_hide e hF), by simp [hl], fun i s h => ?_, fun i j t t' u u' q ne e1 e2 _ => ?_⟩
    · by_cases hi : i < ds.length
      · rw [List.getElem?_append_left (by simpa using hi), List.getElem?_map] at h
        cases q : ds[i]? with
        | none => rw [q] at h; cases h
        | some d =>
          rw [q] at h
          cases h
          obtain ⟨v, h1, h2⟩ := r.get q
          exact ⟨some v, by rw [List.getElem?_append_left (by simp; omega), List.getElem?_map, h1]; rfl, v, rfl, h2⟩
      · rw [List.getElem?_append_right (by simpa using hi), List.length_map, List.getElem?_replicate] at h
        split at h
        · rename_i lt
          cases h
          exact ⟨none, by rw [List.getElem?_append_right (by simp; omega), List.length_map, List.getElem?_replicate, if_pos (by omega)], rfl⟩
        · cases h
    · by_cases hi : i < ds.length
      · rw [List.getElem?_append_left (by simpa using hi), List.getElem?_map] at e1
        cases q : ds[i]? <;> rw [q] at e1 <;> cases e1
      · rw [List.getElem?_append_right (by simpa using hi), List.length_map, List.getElem?_replicate] at e1
        split at e1 <;> cases e1
  refine ⟨ex_hide e hF, ⟨Ex.refl F, hide_ex, e, fun _ _ _ h => h⟩, by simp [L2.start, hl], fun i s h => ?_, fun i j t t' u1 u2 q ne e1 e2 h1 h2 => ?_⟩
  · cases i with
    | zero =>
      cases h
      exact ⟨_, rfl, p, o, rfl, (fun q z => Option.some.inj z), hF, hide_same, hp, ho⟩
    | succ i =>
      obtain ⟨v, h1, h2⟩ := base.sl i s (by simpa using h)
      refine ⟨v, by simp only [L2.start, List.length_cons, List.map_cons, List.cons_append, List.getElem?_cons_succ]; rw [← hl]; exact h1, ?_⟩
      cases s with
      | x => trivial
      | u => exact h2
      | d d => exact h2
      | ex a od y => exact h2
      | ow t' u' =>
        exfalso
        by_cases hi : i < ds.length
        · rw [List.getElem?_cons_succ, List.getElem?_append_left (by simpa using hi), List.getElem?_map] at h
          cases q : ds[i]? <;> rw [q] at h <;> cases h
        · rw [List.getElem?_cons_succ, List.getElem?_append_right (by simpa using hi), List.length_map, List.getElem?_replicate] at h
          split at h <;> cases h
  · have no : ∀ (k : Nat) (t : Option Addr) (u' : Ow), (Sl.ow (some p) u :: (ds.map Sl.d ++ List.replicate (N.length - (ds.length + 1)) Sl.u))[k]? = some (.ow t u') → k = 0 := by
      intro k t u' h
      cases k with
      | zero => rfl
      | succ k =>
        exfalso
        by_cases hi : k < ds.length
        · rw [List.getElem?_cons_succ, List.getElem?_append_left (by simpa using hi), List.getElem?_map] at h
          cases q : ds[k]? <;> rw [q] at h <;> cases h
        · rw [List.getElem?_cons_succ, List.getElem?_append_right (by simpa using hi), List.length_map, List.getElem?_replicate] at h
          split at h <;> cases h
    exact ne ((no i _ _ e1).trans (no j _ _ e2).symm)
end
end Qw

set_option maxHeartbeats 1000000
/-! ### objects, their fields and methods; exceptions raised and caught; lists and sets of one's own -/
namespace Qw
open PySem PySem.Spec PyProof.Rows L2 Evl
open Pw (Dt Rp RpL Wk none_sub get_set set_same set_ne R2d R1d RLd RLn Kq KqL truD isEmpty_rp flatD fl py pyL rangeD rangeD_len charsD wl_at Wl wl_range rangeD_nat find_split itemD spX2 Xm Xm0 zip_lookup)
section
variable {P : Program} {w : World} {K : PySem.W.Frag} {mg : Str → Option Value} {base : Heap} {env env1 env2 : En} {ta tb te tv : TE} {tA t : TA} {d e : Dt} {ds es : List Dt} {C : Addr} {fs : List Str} {R : List Dt → Rs → Prop} {s : TS} {o : Out} {i : Nat} {t' : Option Addr}
/-! making an object -/
def DoesI (P : Program) (w : World) (K : PySem.W.Frag) (E : XK) (C p : Addr) (t : TS) (env : En) : Ri → Prop
  | .f fs es => ∃ e : En, e[0]? = some (.ow (some p) (.ins C fs es)) ∧ Se P w K t env (.nx e)
  | .x y => ∃ e, Se P w K t env (.rz (fun cls d _ H => E cls d H) y e)
theorem Ix.of {x q : Str} {ps N : List Str} {st : Stmt} {k : Nat} {Ri : List Dt → Ri → Prop} (D : Di K mg C x q ps st) (S : FnScope N ps (defScope st)) (hl : ∀ ds r, Ri ds r → ds.length + 1 = ps.length)
    (hb : ∀ (f : Addr) (cdv : Value) (A : Around) (outer : List Env) (s : Shared) (H : Hp) (E : XK), Room k (A.deeper (envOfC q (defScope st) s.heap.objs.size f cdv)) →
      Takes (cxOf (L2.CX P w) P w K mg base N q (defScope st) f cdv A outer s H E) (fun cls d _ H => E cls d H) →
      ∃ t, PSs (cxOf (L2.CX P w) P w K mg base N q (defScope st) f cdv A outer s H E) (defBody st) t ∧ ∀ p ds r, Ri ds r → DoesI P w K E C p t (Sl.ow (some p) (.ins C [] []) :: (ds.map Sl.d ++ List.replicate (N.length - (ds.length + 1)) Sl.u)) r) :
    Ix P w K mg base (k + 1) C x ps (spI P w K C Ri) := by
  obtain ⟨f, fd, h1, hm, F, h3⟩ := D
  refine ⟨f, fd, h1, hm, h3, F.ok S (fun vs H Q E h => ?_) fun cdv A outer s H vs Q E hr h => ?_⟩
  · obtain ⟨F, p, dx, vs', ds, r, rfl, _, _, _, rp, hR, _⟩ := h
    have := hl ds r hR
    rw [List.length_cons, ← rp.length]
    exact this
  · obtain ⟨t, ht, hs⟩ := hb f cdv A outer s H E hr (takes_of rfl rfl rfl rfl)
    refine ⟨t, ht, ?_⟩
    obtain ⟨F, p, dx, vs', ds, r, rfl, ex, nF, hp, rp, hR, q⟩ := h
    have hs' := hs p ds r hR
    have S0 := Sm.startO (P := P) (w := w) (N := N) (u := .ins C [] []) ex nF hp ⟨dx, [], rfl, rfl, rfl⟩ rp
    cases r with
    | f fs es =>
      obtain ⟨e1, he, hse⟩ := hs'
      refine hse F (hide H p) F H _ _ S0 fun F' H' σ' e2 S' => ?_
      obtain ⟨p', o', g1, g2, g3, g4, g5, g6⟩ := S'.own he
      obtain rfl := g2 p rfl
      exact q F' H' o' e2 S'.sub (fun a z ne hz => S'.g.h a z (by rw [hide_ne ne]; exact hz)) (fun a z hz hn => by
        by_cases e : a = p'
        · subst e
          exact g3
        · exact S'.g.n a z (by rw [hide_ne e]; exact hz) hn) g5 g6
    | x y =>
      obtain ⟨e1, hse⟩ := hs'
      exact hse F (hide H p) F H _ _ S0 fun od F' H' σ' e2 S' hx => q od F' H' e2 S'.sub (fun a z ne hz => S'.g.h a z (by rw [hide_ne ne]; exact hz)) (fun a z ne hz => S'.g.n a z (by rw [hide_ne ne]; exact hz)) hx
theorem po_make {E : XK} {Rc : List Dt → Ri → Prop} (h : EpA P w K tA env ds) (hR : Rc ds (.f fs es)) : EpO P w K (tMake C (spI P w K C Rc) [] E tA) env (.ins C fs es) := fun F0 H0 F H σ S Q q =>
  h F0 H0 F H σ S _ fun vs F1 H1 k1 r1 x dx hx hdx ne => by
    have n1 : F1 x = none := none_sub k1.s hx
    refine ⟨F1, x, dx, vs, ds, .f fs es, by rw [List.append_nil], fun a u z => ?_, n1, upd_same, r1, hR, fun F2 H2 o2 f2 s2 k2 n2 h2 r2 => ⟨rfl, q x o2 F2 H2 ⟨k1.f.trans f2, fun a u z => ?_, s2, fun a u z n => ?_⟩ (none_sub k1.h hx) ?_ h2 r2⟩⟩
    · rw [upd_ne (ne_of_none z n1), upd_ne (ne_of_none z (none_sub k1.s hdx))]
      exact k1.s a u z
    · have z1 := k1.h a u z
      refine k2 a u (ne_of_none z1 hx) ?_
      rw [upd_ne (ne_of_none z1 hx), upd_ne (ne_of_none z1 hdx)]
      exact z1
    · have z1 := k1.h a u z
      refine n2 a u ?_ (k1.n a u z n)
      rw [upd_ne (ne_of_none z1 hx), upd_ne (ne_of_none z1 hdx)]
      exact z1
    · exact n2 x _ upd_same n1
def tMakeS (C : Addr) (sp : Sp) (E : L2.St → XK) (t : TA) : TE := fun σ H Q => t σ H fun vs H1 => ∀ x dx, H1 x = none → H1 dx = none → dx ≠ x →
  sp (.ref x :: vs) (L2.upd (L2.upd H1 dx (.own x)) x (.ins C dx [])) (fun v H2 => v = .non ∧ Q (.ref x) H2) (E σ)
theorem po_makeS {E : L2.St → XK} {Rc : List Dt → Ri → Prop} (h : EpA P w K tA env ds) (hR : Rc ds (.f fs es)) : EpO P w K (tMakeS C (spI P w K C Rc) E tA) env (.ins C fs es) := fun F0 H0 F H σ S Q q => by
  have := po_make (E := E σ) (C := C) h hR F0 H0 F H σ S Q q
  unfold tMake at this
  simp only [List.append_nil] at this
  exact this
theorem er_makeS {W : WX} {Rc : List Dt → Ri → Prop} {x : Xn} (h : EpA P w K tA env ds) (hR : Rc ds (.x x)) : Er P w K W (tMakeS C (spI P w K C Rc) (WE W) tA) env x env := fun F0 H0 F H σ S Q q =>
  h F0 H0 F H σ S _ fun vs F1 H1 k1 r1 y dx hy hdx ne => by
    have n1 : F1 y = none := none_sub k1.s hy
    have S1 := S.wk k1
    have up : ∀ a u, H1 a = some u → L2.upd (L2.upd H1 dx (.own y)) y (.ins C dx []) a = some u := fun a u z => by
      rw [upd_ne (ne_of_none z hy), upd_ne (ne_of_none z hdx)]
      exact z
    exact ⟨F1, y, dx, vs, ds, .x x, rfl, fun a u z => up a u (k1.s a u z), n1, upd_same, r1, hR, fun od F2 H2 f2 s2 k2 n2 hx =>
      q od F2 H2 (k1.f.trans f2) (S1.wk ⟨f2, fun a u z => k2 a u (ne_of_none z hy) (up a u z), s2, fun a u z n => n2 a u (ne_of_none z hy) (up a u z) n⟩) hx⟩
/-! fields and methods -/
theorem ep_fld {n : Str} (c : Cls K C) (hn : NoAttr K C n) (h : Ep P w K ta env (.obj C fs ds)) (hl : (fs.zip ds).lookup n = some d) : Ep P w K (tFld K ta n) env d := fun F0 H0 F H σ S Q q =>
  h F0 H0 F H σ S _ fun v F1 H1 k1 r => by
    obtain ⟨a, dx, vs, rfl, h1, h2, h3⟩ := r
    obtain ⟨u, l1, l2⟩ := zip_lookup h3 hl
    exact ⟨a, C, dx, _, u, rfl, k1.s a _ h1, c, hn, l1, q u F1 H1 k1 l2⟩
theorem ep_fldO {n : Str} (c : Cls K C) (hn : NoAttr K C n) (hi : env[i]? = some (.ow t' (.ins C fs ds))) (hl : (fs.zip ds).lookup n = some d) : Ep P w K (tFld K (tVar i) n) env d := fun F0 H0 F H σ S Q q => by
  obtain ⟨a, ho, e1, _, g1, g2, g3, dx, vs, rfl, h2, h3⟩ := S.own hi
  obtain ⟨u, l1, l2⟩ := zip_lookup h3 hl
  exact ⟨_, e1, a, C, dx, _, u, rfl, g3, c, hn, l1, q u F H (Wk.refl S.sub) l2⟩
theorem putF_new {f : Str} {v : V} : ∀ {fs : List Str} {vs : List V}, fs.length = vs.length → fs.contains f = false → putF f v (fs.zip vs) = (fs ++ [f]).zip (vs ++ [v])
  | [], [], _, _ => rfl
  | g :: fs, u :: vs, h, hc => by
    rw [List.contains_cons, Bool.or_eq_false_iff] at hc
    have ne : ¬ g = f := fun e => by simp [e] at hc
    show (if g = f then _ else (g, u) :: putF f v (fs.zip vs)) = _
    rw [if_neg ne, putF_new (by simpa using h) hc.2]
    rfl
theorem putF_old {f : Str} {v : V} : ∀ {fs : List Str} {vs : List V} {k : Nat}, fs.length = vs.length → fs[k]? = some f → (∀ j, j < k → fs[j]? ≠ some f) → putF f v (fs.zip vs) = fs.zip (vs.set k v)
  | [], _, k, _, h, _ => by simp at h
  | g :: fs, [], k, h, _, _ => by simp at h
  | g :: fs, u :: vs, 0, h, e, _ => by
    simp at e
    show (if g = f then _ else _) = _
    rw [if_pos e]
    rfl
  | g :: fs, u :: vs, k + 1, h, e, n => by
    have ne : ¬ g = f := fun z => n 0 (Nat.zero_lt_succ _) (by simp [z])
    show (if g = f then _ else (g, u) :: putF f v (fs.zip vs)) = _
    rw [if_neg ne, putF_old (k := k) (by simpa using h) (by simpa using e) fun j hj z => n (j + 1) (by omega) (by simpa using z)]
    rfl
theorem se_fldN {n : Str} (c : Cls K C) (hn : NoAttr K C n) (hv : Ee P w K tv env d env1) (hi : env1[i]? = some (.ow t' (.ins C fs ds)) := by rfl) (hc : fs.contains n = false := by decide +kernel) (hz : fs.length < 900 := by exact Nat.lt_of_lt_of_le (Nat.lt_succ_self _) (Nat.le_of_ble_eq_true rfl)) :
    Se P w K (sFld K (tVar i) tv n) env (.nx (env1.set i (.ow t' (.ins C (fs ++ [n]) (ds ++ [d]))))) := fun F0 H0 F H σ D S p =>
  hv.2 F0 H0 F H σ S _ fun v F1 H1 k1 S1 r => by
    obtain ⟨a, ho, e1, _, g1, g2, g3, dx, vs, rfl, h2, h3⟩ := S1.own hi
    refine ⟨_, e1, a, C, dx, _, rfl, g3, c, hn, by rw [List.length_zip, ← h2]; omega, ?_⟩
    rw [putF_new h2 hc]
    exact p F1 _ σ k1.f (S1.mut hi e1 ⟨dx, vs ++ [v], rfl, by simp [h2], RpL.append h3 (RpL.cons r RpL.nil)⟩)
theorem se_fldS {n : Str} {k : Nat} (c : Cls K C) (hn : NoAttr K C n) (hv : Ee P w K tv env d env1) (hi : env1[i]? = some (.ow t' (.ins C fs ds)) := by rfl) (hk : fs[k]? = some n := by rfl) (hf : ∀ j, j < k → fs[j]? ≠ some n := by decide +kernel) (hz : fs.length < 900) :
    Se P w K (sFld K (tVar i) tv n) env (.nx (env1.set i (.ow t' (.ins C fs (ds.set k d))))) := fun F0 H0 F H σ D S p =>
  hv.2 F0 H0 F H σ S _ fun v F1 H1 k1 S1 r => by
    obtain ⟨a, ho, e1, _, g1, g2, g3, dx, vs, rfl, h2, h3⟩ := S1.own hi
    refine ⟨_, e1, a, C, dx, _, rfl, g3, c, hn, by rw [List.length_zip, ← h2]; omega, ?_⟩
    rw [putF_old h2 hk hf]
    exact p F1 _ σ k1.f (S1.mut hi e1 ⟨dx, vs.set k v, rfl, by simp [h2], RpL.set k h3 r⟩)
theorem zip_none {n : Str} : ∀ {fs : List Str} {vs : List V}, fs.contains n = false → (fs.zip vs).lookup n = none
  | [], _, _ => by simp
  | g :: fs, [], _ => by simp
  | g :: fs, u :: vs, h => by
    rw [List.contains_cons, Bool.or_eq_false_iff] at h
    rw [List.zip_cons_cons, List.lookup_cons, h.1]
    exact zip_none h.2
theorem ep_meth {E : XK} {m : Str} (h : Ep P w K ta env (.obj C fs ds)) (hA : EpA P w K t env es) (hf : R (.obj C fs ds :: es) (.d d)) (hm : fs.contains m = false := by decide +kernel) : Ep P w K (tMeth C m (spR P w K R) [] E ta t) env d := fun F0 H0 F H σ S Q q =>
  h F0 H0 F H σ S _ fun v F1 H1 k1 r => by
    have r' := r
    obtain ⟨a, dx, vs, rfl, h1, h2, h3⟩ := r
    exact ⟨a, dx, _, rfl, k1.s a _ h1, zip_none hm, hA F0 H0 F1 H1 σ (S.wk k1) _ fun us F2 H2 k2 r2 => ⟨F2, _, .d d, k2.s, by rw [List.append_nil]; exact ⟨_, _, rfl, r'.mono k2.f, r2⟩, hf, fun v F3 H3 k3 r3 => q v F3 H3 ((k1.trans k2).trans k3) r3⟩⟩
theorem po_meth {E : XK} {m : Str} {u : Ow} (h : Ep P w K ta env (.obj C fs ds)) (hA : EpA P w K t env es) (hf : R (.obj C fs ds :: es) (.o u)) (hm : fs.contains m = false := by decide +kernel) : EpO P w K (tMeth C m (spR P w K R) [] E ta t) env u := fun F0 H0 F H σ S Q q =>
  h F0 H0 F H σ S _ fun v F1 H1 k1 r => by
    have r' := r
    obtain ⟨a, dx, vs, rfl, h1, h2, h3⟩ := r
    exact ⟨a, dx, _, rfl, k1.s a _ h1, zip_none hm, hA F0 H0 F1 H1 σ (S.wk k1) _ fun us F2 H2 k2 r2 => ⟨F2, _, .o u, k2.s, by rw [List.append_nil]; exact ⟨_, _, rfl, r'.mono k2.f, r2⟩, hf, fun p o F3 H3 k3 n1 n2 h3 r3 => q p o F3 H3 ((k1.trans k2).trans k3) (none_sub (k1.trans k2).h n1) n2 h3 r3⟩⟩
theorem RpL.flatAll {F F' : Hp} : ∀ {ds : List Dt} {vs : List V}, RpL K F ds vs → ds.all flatD = true → RpL K F' ds vs
  | [], _, h, _ => h
  | d :: ds, vs, h, f => by
    obtain ⟨v, r, rfl, q, s⟩ := h
    rw [List.all_cons, Bool.and_eq_true] at f
    exact ⟨v, r, rfl, q.flat f.1, RpL.flatAll s f.2⟩
/-- self.m() of an object that is being made: it is lent -/
theorem po_methL {E : XK} {m : Str} {zs : List Dt} (hi : env[i]? = some (.ow t' (.ins C fs ds))) (hf : R [.obj C fs ds] (.o (.lst zs))) (hz : zs.all flatD = true) (hm : fs.contains m = false := by decide +kernel) : EpO P w K (tMeth C m (spR P w K R) [] E (tVar i) tNil) env (.lst zs) := fun F0 H0 F H σ S Q q => by
  obtain ⟨a, ho, e1, _, g1, g2, g3, g4⟩ := S.own hi
  have g4' := g4
  obtain ⟨dx, vs, rfl, h2, h3⟩ := g4
  have ex : Ex (L2.upd F a (.ins C dx (fs.zip vs))) H := fun b u z => by
    by_cases e : b = a
    · subst e
      rw [upd_same] at z
      rw [g3, ← z]
    · rw [upd_ne e] at z
      exact S.sub b u z
  refine ⟨_, e1, a, dx, _, rfl, g3, zip_none hm, L2.upd F a (.ins C dx (fs.zip vs)), [.obj C fs ds], .o (.lst zs), ex, ?_, hf, fun p o F3 H3 k3 n1 n2 h3 r3 => ?_⟩
  · exact ⟨_, [], rfl, (g4'.mono (Ex.new g1)).rp rfl upd_same, rfl⟩
  · obtain ⟨us, rfl, r4⟩ := r3
    exact q p _ F H3 ⟨Ex.refl F, k3.h, S.sub.trans k3.h, fun _ _ _ n => n⟩ n1 (none_sub S.sub n1) h3 ⟨us, rfl, RpL.flatAll r4 hz⟩
/-! exceptions -/
theorem se_raise2 {W : WX} {f1 f2 : Str} (h : EpA P w K tA env [d, e]) : Se P w K (fun _ σ H => tMkO C (spX2 C f1 f2) [] tA σ H fun cls d H' => W cls d σ H') env (.rz W ⟨C, [f2, f1], [e, d]⟩ env) := fun F0 H0 F H σ D S p =>
  h F0 H0 F H σ S _ fun vs F1 H1 k1 r => by
    obtain ⟨v1, r1, rfl, q1, v2, r2, rfl, q2, e3⟩ := r
    cases e3
    refine ⟨by show 2 ≤ 1000; decide, fun a ha => ⟨a, v1, v2, rfl, upd_same, fun dx H' hx ne h1 h2 hk => ⟨rfl, dx, _, h1, h2, ?_, ?_⟩⟩⟩
    · rw [upd_ne ne] at hx
      exact hx
    · have hx1 : H1 dx = none := by
        rw [upd_ne ne] at hx
        exact hx
      have S1 := S.wk k1
      have kk : Wk F1 H1 (L2.upd F1 dx (.xd [(f2, v2), (f1, v1)])) (L2.upd (del H' a) dx (.xd [(f2, v2), (f1, v1)])) := by
        refine ⟨Ex.new (none_sub k1.s hx1), fun b u z => ?_, fun b u z => ?_, fun b u z n => ?_⟩
        · have nb := ne_of_none z hx1
          have na := ne_of_none z ha
          rw [upd_ne nb, del_ne na, hk b na nb, upd_ne na]
          exact z
        · by_cases e : b = dx
          · subst e
            rw [upd_same] at z ⊢
            exact z
          · rw [upd_ne e] at z
            have zH := k1.s b u z
            have na := ne_of_none zH ha
            rw [upd_ne e, del_ne na, hk b na e, upd_ne na]
            exact zH
        · rw [upd_ne (ne_of_none z hx1)]
          exact n
      refine p (some dx) _ _ σ (k1.f.trans kk.f) (S1.wk kk) (.inr ⟨dx, [v2, v1], (fun z => nomatch z), rfl, rfl, ⟨v2, [v1], rfl, q2.mono kk.f, v1, [], rfl, q1.mono kk.f, rfl⟩, ?_⟩)
      exact upd_same
theorem se_raise0 {W : WX} : Se P w K (fun _ σ H => (fun (_ : L2.St) (H : Hp) (Q : XK) => Q (.ref C) none H) σ H fun cls d H' => W cls d σ H') env (.rz W ⟨C, [], []⟩ env) := fun F0 H0 F H σ D S p => p none F H σ (Ex.refl F) S (.inl ⟨rfl, rfl⟩)
/-- what a statement does that does not depend on the wish: nothing is raised -/
theorem se_try (tb : WX → TS) {f : Ends → WX} (h : ∀ W, Se P w K (tb W) env o) (hf : ∀ W x e, o ≠ .rz W x e := by intro _ _ _ z; cases z) : Se P w K (fun D σ H => tb (f D) D σ H) env o := fun F0 H0 F H σ D S p => h (f D) F0 H0 F H σ D S p
/-- try: .. except c as n: suite, something of the class c raised -/
theorem se_try_as {tb : WX → TS} {ts : Addr → Value → Option Addr → TS} {c : Value} {Wout : WX} {x : Xn} {e1 e2 : En} {n : Nat} (h : ∀ W, Se P w K (tb W) env (.rz W x e1)) (hm : PySem.W.exmOne K (.ref x.C) c = some true)
    (hs : ∀ a od, Se P w K (ts a (.ref x.C) od) (e1.set n (.ex a od x)) o) (ho : (∃ d, o = .rt d) ∨ (∃ e, o = .nx e) ∨ ∃ u, o = .ro u) (hn : n < e1.length) :
    Se P w K (fun D σ H => tb (wAs K c n ts Wout D) D σ H) env (match o with | .nx e => .nx (e.set n .u) | o => o) := fun F0 H0 F H σ D S p => by
  refine h _ F0 H0 F H σ D S fun od F1 H1 σ1 ex S1 hx => ?_
  refine ⟨true, hm, fun _ a ha => ?_, fun z => nomatch z⟩
  have S2 : Sm P w K F0 H0 F1 H1 (σ1.set n (some (.ref a))) (e1.set n (.ex a od x)) := by
    refine ⟨S1.e0, S1.g, by simp [S1.len], fun j s e => ?_, fun b c t1 t2 u1 u2 p ne e1 e2 h => ?_⟩
    · rcases get_set e with ⟨rfl, rfl, l⟩ | ⟨ne, e⟩
      · exact ⟨_, set_same (by rw [S1.len]; exact l), rfl, hx⟩
      · rw [set_ne ne]
        exact S1.sl j s e
    · rcases get_set e1 with ⟨_, z, _⟩ | ⟨n1, e1⟩
      · cases z
      · rcases get_set e2 with ⟨_, z, _⟩ | ⟨n2, e2⟩
        · cases z
        · rw [set_ne n1] at h
          rw [set_ne n2]
          exact S1.df b c t1 t2 u1 u2 p ne e1 e2 h
  refine hs a od F0 H0 F1 H1 _ _ S2 ?_
  rcases ho with ⟨d, rfl⟩ | ⟨e, rfl⟩ | ⟨u, rfl⟩
  · exact p
  · exact fun F3 H3 σ3 e3 S3 => p F3 H3 _ (ex.trans e3) (S3.setU n)
  · exact p
theorem se_try_only {tb : WX → TS} {ts : Addr → Value → Option Addr → TS} {c : Value} {Wout : WX} {x : Xn} {e1 : En} (h : ∀ W, Se P w K (tb W) env (.rz W x e1)) (hm : PySem.W.exmOne K (.ref x.C) c = some true)
    (hs : ∀ a od, Se P w K (ts a (.ref x.C) od) e1 o) (ho : ∀ W x e, o ≠ .rz W x e := by intro _ _ _ z; cases z) :
    Se P w K (fun D σ H => tb (wOnly K c ts Wout D) D σ H) env o := fun F0 H0 F H σ D S p => by
  refine h _ F0 H0 F H σ D S fun od F1 H1 σ1 ex S1 hx => ?_
  exact ⟨true, hm, fun _ a ha => hs a od F0 H0 F1 H1 σ1 D S1 (p.ex ex), fun z => nomatch z⟩
/-- e.f in the suite -/
theorem ep_xf {a : Addr} {od : Option Addr} {x : Xn} {n f0 : Str} {fr : List Str} (hi : env[i]? = some (.ex a od x)) (hx : x.fs = f0 :: fr := by rfl) (hl : (x.fs.zip x.ds).lookup n = some d) : Ep P w K (tXf a (.ref x.C) od x.C n (tVar i)) env d := fun F0 H0 F H σ S Q q => by
  obtain ⟨v, h1, rfl, hk⟩ := S.sl i _ hi
  rcases hk with ⟨z, _⟩ | ⟨dx, vs, _, rfl, h2, h3, h4⟩
  · rw [hx] at z
    cases z
  · obtain ⟨u, l1, l2⟩ := zip_lookup h3 hl
    exact ⟨_, h1, rfl, rfl, dx, _, u, rfl, S.sub dx _ h4, l1, q u F H (Wk.refl S.sub) l2⟩
/-! lists of one's own, read -/
theorem ep_lenO {xs : List Dt} (hi : env[i]? = some (.ow t' (.lst xs)) := by rfl) : Ep P w K (tCB (rLenS K) (tCons (tVar i) tNil)) env (.int xs.length) := fun F0 H0 F H σ S Q q => by
  obtain ⟨a, ho, e1, _, g1, g2, g3, vs, rfl, h3⟩ := S.own hi
  refine ⟨_, e1, a, vs, rfl, .inl (SqL.of g3), ?_⟩
  rw [← h3.length]
  exact q _ F H (Wk.refl S.sub) rfl
theorem ee_ixO {xs : List Dt} {k : Int} {j : Nat} {tk : TE} {u1 : Ow} (hi : env[i]? = some (.ow t' u1) := by rfl) (hk : Ee P w K tk env (.int k) env1) (hi1 : env1[i]? = some (.ow t' (.lst xs)) := by rfl) (hj : ixN xs.length k = some j) (h : xs[j]? = some d) : Ee P w K (tOp (rIxL K) (tVar i) tk) env d env1 := ⟨hk.1, fun F0 H0 F H σ S Q q => by
  obtain ⟨a, ho, e1, _, _⟩ := S.own hi
  refine ⟨_, e1, hk.2 F0 H0 F H σ S _ fun kv F1 H1 k1 S1 r1 => ?_⟩
  obtain ⟨b, ho', e2, _, g1, g2, g3, vs, rfl, h3⟩ := S1.own hi1
  rw [e1] at e2
  cases e2
  obtain ⟨v, h4, h5⟩ := h3.get h
  exact ⟨a, vs, k, v, rfl, r1, SqL.of g3, by unfold atI; rw [← h3.length, hj]; exact h4, q v F1 H1 k1 S1 h5⟩⟩
theorem ep_ixO {xs : List Dt} {k : Int} {j : Nat} {tk : TE} (hi : env[i]? = some (.ow t' (.lst xs)) := by rfl) (hk : Ep P w K tk env (.int k)) (hj : ixN xs.length k = some j) (h : xs[j]? = some d) : Ep P w K (tOp (rIxL K) (tVar i) tk) env d := fun F0 H0 F H σ S Q q => by
  obtain ⟨a, ho, e1, _, g1, g2, g3, vs, rfl, h3⟩ := S.own hi
  refine ⟨_, e1, hk F0 H0 F H σ S _ fun kv F1 H1 k1 r1 => ?_⟩
  obtain ⟨v, h4, h5⟩ := h3.get h
  exact ⟨a, vs, k, v, rfl, r1, SqL.of (k1.h a _ g3), by unfold atI; rw [← h3.length, hj]; exact h4, q v F1 H1 k1 (h5.mono k1.f)⟩
theorem tp_truO {xs : List Dt} (hi : env[i]? = some (.ow t' (.lst xs)) := by rfl) : Tp P w K (fun σ H Q => tVar i σ H fun x H' => ∃ k, TruV K x H' k ∧ Q k H') env (!xs.isEmpty) := fun F0 H0 F H σ S Q q => by
  obtain ⟨a, ho, e1, _, g1, g2, g3, vs, rfl, h3⟩ := S.own hi
  exact ⟨_, e1, !xs.isEmpty, .inl ⟨vs, SqL.of g3, isEmpty_rp h3⟩, q F H (Wk.refl S.sub)⟩
theorem ee_popO {xs : List Dt} (hi : env[i]? = some (.ow t' (.lst (xs ++ [d]))) := by rfl) : Ee P w K (tBM0 K "list" rPop (tVar i)) env d (env.set i (.ow t' (.lst xs))) := ⟨Sh.set hi, fun F0 H0 F H σ S Q q => by
  obtain ⟨a, ho, e1, _, g1, g2, g3, vs, rfl, h3⟩ := S.own hi
  have hl := h3.length
  simp at hl
  obtain ⟨v, h4, h5⟩ := h3.get (i := xs.length) (d := d) (by simp)
  refine ⟨_, e1, .inl ⟨rfl, vs, sq_of g3⟩, a, vs, v, rfl, rfl, g3, by rw [show vs.length - 1 = xs.length by omega]; exact h4, ?_⟩
  refine q v F _ (Wo.mut S hi e1) (S.mut hi e1 ⟨_, rfl, ?_⟩) h5
  have := h3.take xs.length
  rw [List.take_left' rfl] at this
  rw [List.dropLast_eq_take, show vs.length - 1 = xs.length by omega]
  exact this⟩
/-! sets of one's own -/
theorem po_set0 : EpO P w K (tCB (rSet0K P w) tNil) env (.set (fun _ => false) 0) := fun F0 H0 F H σ S Q q => ⟨rfl, fun p hp => q p _ F _ (Wk.own S.sub _ hp) hp (none_sub S.sub hp) upd_same ⟨0, Nat.le_refl _, rfl⟩⟩
theorem keys_of {F : Hp} : ∀ {ks : List Key} {vs : List V}, RpL K F (ks.map kD) vs → vs = ks.map kV
  | [], _, h => h
  | k :: ks, _, h => by
    obtain ⟨v, r, rfl, q, s⟩ := h
    rw [kD_rp q, keys_of s]
    rfl
theorem po_setL {ks : List Key} (h : EpA P w K tA env [.lst (ks.map kD)]) (hn : ks.length ≤ 4000) : EpO P w K (tCB (Qs.rSetL K P w) tA) env (.set (Qs.memK ks) ks.length) := fun F0 H0 F H σ S Q q =>
  h F0 H0 F H σ S _ fun vs F1 H1 k1 r => by
    obtain ⟨v, r1, rfl, ⟨a, us, rfl, h1, h2⟩, e⟩ := r
    cases e
    cases keys_of h2
    exact ⟨a, ks, rfl, ex_l k1.s h1, hn, fun p m hm hp => q p _ F1 _ (k1.trans (Wk.own k1.s _ hp)) (none_sub k1.h hp) (none_sub k1.s hp) upd_same ⟨m, hm, rfl⟩⟩
theorem ep_inS {k : Key} {S0 : Key → Bool} {m : Nat} (neg : Bool) (hk : Ep P w K te env (kD k)) (hi : env[i]? = some (.ow t' (.set S0 m)) := by rfl) : Ep P w K (tOp (rSInK P w neg) te (tVar i)) env (.bl (if neg then !S0 k else S0 k)) := fun F0 H0 F H σ S Q q =>
  hk F0 H0 F H σ S _ fun y F1 H1 k1 r1 => by
    obtain ⟨a, ho, e1, _, g1, g2, g3, c, hc, rfl⟩ := (S.wk k1).own hi
    rw [kD_rp r1]
    exact ⟨_, e1, k, a, S0, c, rfl, rfl, g3, q _ F1 H1 k1 rfl⟩
theorem se_addS {k : Key} {S0 : Key → Bool} {m : Nat} (hk : Ep P w K te env (kD k)) (hi : env[i]? = some (.ow t' (.set S0 m)) := by rfl) (hm : m < 4000) : Se P w K (tDrop (tSAddK P w (tVar i) (tCons te tNil))) env (.nx (env.set i (.ow t' (.set (fun j => S0 j || decide (j = k)) (m + 1))))) := fun F0 H0 F H σ D S p => by
  obtain ⟨a, ho, e1, _, g1, g2, g3, c, hc, rfl⟩ := S.own hi
  refine ⟨_, e1, ⟨a, S0, c, rfl, g3⟩, hk F0 H0 F H σ S _ fun y F1 H1 k1 r1 => ?_⟩
  rw [kD_rp r1]
  refine ⟨a, k, S0, c, rfl, rfl, k1.h a _ g3, by unfold scanBound; omega, ?_⟩
  exact p F1 _ σ k1.f ((S.wk k1).mut hi e1 ⟨_, by split <;> omega, rfl⟩)
end
end Qw

set_option maxHeartbeats 1000000
/-! ### rules: calls by name -/
namespace Qw
open PySem PySem.Spec PyProof.Rows L2 Evl
open Pw (spX2 Xm Xm0)
section
variable {X : Cx} {x m : Str} {C : Addr} {ps : List Str} {sp : Sp} {k : Nat} {e o : Expr} {es : List Expr} {t : TA} {ta : TE} {p pos apos : Pos} {W : WX}
theorem pe_fx (F : Fx X.prog X.w X.K X.mg X.base k x ps sp) (hr : Room k X.A) (ha : PA X (e :: es) t) (hg : Gl X x := by rfl)
    (hdb : (x == ("__debug__" : Str)) = false := by decide) (he : starEach (e :: es) X.env = (false, eval e X.env) :: starEach es X.env := by rfl) (hpl : (backTo pos (starEach es X.env)).any (·.1) = false := by rfl) :
    PE X (.Call (.Name x p) (e :: es) [] pos) (tCall sp [] E0 t) := by
  obtain ⟨f, fd, h1, h2, h3, h4⟩ := F
  exact pe_call h4 hr hg h1 h2 h3 .nil passL ha hdb he hpl
theorem pe_fx0 (F : Fx X.prog X.w X.K X.mg X.base k x ps sp) (hr : Room k X.A) (hg : Gl X x := by rfl) (hdb : (x == ("__debug__" : Str)) = false := by decide) : PE X (.Call (.Name x p) [] [] pos) (tCall sp [] E0 tNil) := by
  obtain ⟨f, fd, h1, h2, h3, h4⟩ := F
  exact pe_call0 h4 hr hg h1 h2 h3 .nil passL hdb
theorem pe_fxS (F : Fx X.prog X.w X.K X.mg X.base k x ps sp) (hr : Room k X.A) (tk : Takes X W) (ha : PA X (e :: es) t) (hg : Gl X x := by rfl)
    (hdb : (x == ("__debug__" : Str)) = false := by decide) (he : starEach (e :: es) X.env = (false, eval e X.env) :: starEach es X.env := by rfl) (hpl : (backTo pos (starEach es X.env)).any (·.1) = false := by rfl) :
    PE X (.Call (.Name x p) (e :: es) [] pos) (tCallS sp (WE W) t) := by
  obtain ⟨f, fd, h1, h2, h3, h4⟩ := F
  exact pe_callS h4 hr hg h1 h2 h3 (fun σ => passAt tk σ) ha hdb he hpl
theorem pe_mx {pl : Sem Bool} (F : Mx X.prog X.w X.K X.mg X.base k C m ps sp) (c : Cls X.K C) (hr : Room k X.A) (ho : PE X o ta) (ha : PA X (e :: es) t)
    (hst : starEach (e :: es) X.env = (false, eval e X.env) :: starEach es X.env := by rfl) (hpl : (backTo pos (starEach es X.env)).any (·.1) = false := by rfl)
    (ht : eval (.Call (.Attribute o m apos) (e :: es) [] pos) X.env = (do
      let ov ← eval o X.env
      standAt apos.atName
      let (f, first) ← holding [ov] (getMethod ov m pl)
      callWith pos f first (backTo pos (starEach (e :: es) X.env)) (backToKw pos (keywordEach [] X.env))) := by rfl) :
    PE X (.Call (.Attribute o m apos) (e :: es) [] pos) (tMeth C m sp [] E0 ta t) := by
  obtain ⟨f, fd, h1, h3, h4⟩ := F
  exact pe_meth ho c h1 h4 hr h3 .nil passL ha hst hpl ht
theorem pe_mx0 {pl : Sem Bool} (F : Mx X.prog X.w X.K X.mg X.base k C m ps sp) (c : Cls X.K C) (hr : Room k X.A) (ho : PE X o ta)
    (ht : eval (.Call (.Attribute o m apos) [] [] pos) X.env = (do
      let ov ← eval o X.env
      standAt apos.atName
      let (f, first) ← holding [ov] (getMethod ov m pl)
      callWith pos f first (backTo pos (starEach [] X.env)) (backToKw pos (keywordEach [] X.env))) := by rfl) :
    PE X (.Call (.Attribute o m apos) [] [] pos) (tMeth C m sp [] E0 ta tNil) := by
  obtain ⟨f, fd, h1, h3, h4⟩ := F
  exact pe_meth0 ho c h1 h4 hr h3 .nil passL ht
theorem pe_ix2 (F : Ix X.prog X.w X.K X.mg X.base k C x ps sp) (hr : Room (k + 1) X.A) (ha : PA X (e :: es) t) (hg : Gl X x := by rfl)
    (hdb : (x == ("__debug__" : Str)) = false := by decide) (he : starEach (e :: es) X.env = (false, eval e X.env) :: starEach es X.env := by rfl) (hpl : (backTo pos (starEach es X.env)).any (·.1) = false := by rfl) :
    PE X (.Call (.Name x p) (e :: es) [] pos) (tMake C sp [] E0 t) := by
  obtain ⟨f, fd, h1, hm, h3, h4⟩ := F
  exact pe_make hm h4 hr hg h1 h3 .nil passL ha hdb he hpl
/-- C(..), what its __init__ lets out wished for at the slots -/
theorem pe_ixS (F : Ix X.prog X.w X.K X.mg X.base k C x ps sp) (hr : Room (k + 1) X.A) (tk : Takes X W) (ha : PA X (e :: es) t) (hg : Gl X x := by rfl)
    (hdb : (x == ("__debug__" : Str)) = false := by decide) (he : starEach (e :: es) X.env = (false, eval e X.env) :: starEach es X.env := by rfl) (hpl : (backTo pos (starEach es X.env)).any (·.1) = false := by rfl) :
    PE X (.Call (.Name x p) (e :: es) [] pos) (tMakeS C sp (WE W) t) := by
  obtain ⟨f, fd, h1, M, hb, F⟩ := F
  refine ⟨fun pins s σ H Q I h => wpAny_Call_Name_kw (ld_glob I hg h1 ?_ hdb)⟩
  refine PySem.W.callWith_K (h₀ := X.base) I.ok.mod.kin M.kp (thn (ha.run pos pins s σ H _ I h) fun us s1 ⟨vs, H1, I1, r, q⟩ => ⟨I1.kIn, ?_⟩) he hpl
  have q1 := q (s1.heap.objs.size + 1) s1.heap.objs.size (I1.hok.fresh (Nat.le_succ _)) (I1.hok.fresh (Nat.le_refl _)) (Nat.ne_of_lt (Nat.lt_succ_self _))
  have J := Inv.made (C := C) I1
  have r2 : Vals (V.ref (s1.heap.objs.size + 1) :: vs) (Value.ref (s1.heap.objs.size + 1) :: us) := .cons rfl r
  have hl : (Value.ref (s1.heap.objs.size + 1) :: us).length = ps.length := (r2.length.symm.trans (F.len _ _ _ _ q1))
  have b := hb _ (Value.ref (s1.heap.objs.size + 1) :: us) J.kIn (by rw [List.append_nil]; exact hl)
  rw [List.append_nil] at b
  refine wpAny_call (make_map (f := f) I1.kIn M.makes M.init (beq_iff_eq.mp M.fn) (codeAny_mono (F.run _ X.stack _ _ ⟨Value.ref (s1.heap.objs.size + 1) :: us, []⟩ _ _ _ _ (hr.make C us []) (J.env0.make C us []) b r2 q1) fun z s' hz => ?_))
  match z, hz with
  | .error er, hz => exact passAt tk σ pins _ _ er s' J hz
  | .ok (.ret u), hz =>
    obtain ⟨v, H', I3, rv, ev, q3⟩ := J.after hz
    subst ev
    exact ⟨rv, V.ref (s1.heap.objs.size + 1), H', I3, rfl, q3⟩
  | .ok .next, hz => exact hz.elim
  | .ok .brk, hz => exact hz.elim
  | .ok .cont, hz => exact hz.elim
/-- the exception's making, of a class with the __init__ of two fields -/
theorem pm_2 {f1 f2 : Str} (G : Xm X.prog X.w X.K X.mg X.base x C (spX2 C f1 f2)) (hr : Room 2 X.A) (ha : PA X (e :: es) t) (hg : Gl X x := by rfl)
    (hdb : (x == ("__debug__" : Str)) = false := by decide) (he : starEach (e :: es) X.env = (false, eval e X.env) :: starEach es X.env := by rfl) (hpl : (backTo pos (starEach es X.env)).any (·.1) = false := by rfl) :
    PMk X (.Call (.Name x p) (e :: es) [] pos) (tMkO C (spX2 C f1 f2) [] t) := by
  obtain ⟨fI, fd, ps, h1, h2, h3, h4, h5, h6⟩ := G
  exact pmk_oex h2 h3 h4 h6 hr h5 .nil pass0 hg h1 ha hdb he hpl
theorem pset {i : Nat} {y : Str} {te : TE} {pos' : Pos} (hN : X.N.Nodup) (he : PE X e te) (hi : X.N[i]? = some y := by rfl) (hx : Loc X.env.scope y := by first | exact Or.inl rfl | exact Or.inr rfl) (hs : swapsWith e (some (.Name y pos')) pos.line X.env = pure false := by rfl)
    (hf : X.fn y = true ∨ X.env.scope.names.lookup y = some .local := by first | exact .inl rfl | exact .inr rfl | assumption) : PS X (.Assign [.Name y pos'] e pos) (tAsg te (gName i)) := ps_set hN hi hx he hs hf
theorem pgn {i : Nat} {y : Str} (hN : X.N.Nodup) (hi : X.N[i]? = some y := by rfl) (hx : Loc X.env.scope y := by first | exact Or.inl rfl | exact Or.inr rfl)
    (hf : X.fn y = true ∨ X.env.scope.names.lookup y = some .local := by first | exact .inl rfl | exact .inr rfl | assumption) : PG X (.Name y pos) (gName i) := pg_name hN hi hx hf
end
end Qw

set_option maxHeartbeats 1000000
namespace Qw
open PySem PySem.Spec PyProof.Rows L2 Evl
open Pw (Dt Rp RpL Wk none_sub get_set set_same set_ne R2d R1d RLd RLn Kq KqL truD isEmpty_rp flatD fl py pyL rangeD rangeD_len charsD wl_at Wl wl_range rangeD_nat find_split itemD spX2 Xm Xm0)
/-! ### a walk over what is a list or a tuple -/
def iSeq (K : PySem.W.Frag) (tl : TE) : TI := fun σ H R => tl σ H fun x H1 => ∃ a, x = .ref a ∧ (((∃ xs, SqL K H1 a xs) ∧ R (Itl K a) H1) ∨ ((∃ xs, SqT K H1 a xs) ∧ R (Itt K a) H1))
theorem pie_new {X : Cx} {pins : List (Addr × Obj)} {σ : L2.St} {tg : Expr} {R : It → Hp → Prop} {H : Hp} {s : Shared} {J : It} {o : Obj} {tn : Nat → Heap → Prop} (I : Inv X pins σ H s) (t : Turn X.prog X.w X.K tg J [s.heap.objs.size] s.heap.objs.size tn)
    (h0 : tn 0 (s.heap.push o)) (q : R J H) : PIE X pins σ tg R (.ref s.heap.objs.size) { s with heap := s.heap.push o } := by
  refine ⟨_, _, tn, J, H, rfl, I.kept (t' := s.toks) fun b o e => Heap.get?_push_of_some _ e, t, h0, fun b hb => ?_, q⟩
  rw [List.mem_singleton] at hb
  subst hb
  exact I.fpOk (Nat.le_refl _) (I.hok.fresh (Nat.le_refl _))
theorem pi_seq {X : Cx} {tg l : Expr} {tl : TE} (hl : PE X l tl) : PI X tg l (iSeq X.K tl) := by
  refine ⟨fun pins s σ H R I h => thn (hl.run pins s σ H _ I h) fun v s1 hv => ?_⟩
  obtain ⟨x, H1, I1, r1, a, e, q⟩ := hv
  subst e
  cases r1
  rcases q with ⟨⟨xs, hq⟩, q⟩ | ⟨⟨xs, hq⟩, q⟩
  · obtain ⟨its, _, p, _⟩ := I1.list hq
    exact wpAny_pyIter_list p.isList (pie_new I1 (turn_list a _) ⟨_, Heap.get?_push_size _ rfl, rfl, rfl⟩ q)
  · obtain ⟨its, _, p, _⟩ := I1.tuple hq
    exact wpAny_pyIter_tuple (show s1.heap.IsTuple a its.toArray from p) (pie_new I1 (turn_tuple a _) ⟨_, Heap.get?_push_size _ rfl, rfl, rfl⟩ q)
section
variable {P : Program} {w : World} {K : PySem.W.Frag} {env : En} {tl : TE} {ds : List Dt}
theorem ip_seqL (h : Ep P w K tl env (.lst ds)) : Ip P w K (iSeq K tl) env ds := fun F0 H0 F H σ S R k =>
  h F0 H0 F H σ S _ fun v F1 H1 k1 r => by
    obtain ⟨a, vs, rfl, h1, h2⟩ := r
    exact ⟨a, rfl, .inl ⟨⟨vs, ex_l k1.s h1⟩, k _ F1 H1 k1 (wl_at h2 walk_list fun H e => ex_l e h1)⟩⟩
theorem ip_seqT (h : Ep P w K tl env (.tup ds)) : Ip P w K (iSeq K tl) env ds := fun F0 H0 F H σ S R k =>
  h F0 H0 F H σ S _ fun v F1 H1 k1 r => by
    obtain ⟨a, vs, rfl, h1, h2⟩ := r
    exact ⟨a, rfl, .inr ⟨⟨vs, ex_t k1.s h1⟩, k _ F1 H1 k1 (wl_at h2 walk_tup fun H e => ex_t e h1)⟩⟩
/-- tuple(xs) of a list or of a tuple -/
theorem ep_globT {a : Addr} {ds : List Dt} (h : ∀ F : Hp, Rp K F (.tup ds) (.ref a)) : Ep P w K (tC (.ref a)) env (.tup ds) := ep_c h
theorem rp_wr {a : Addr} {ds : List Dt} {vs : List V} (h : ∀ H, SqT K H a vs) (r : ∀ F, RpL K F ds vs) (F : Hp) : Rp K F (.tup ds) (.ref a) := ⟨a, vs, rfl, h F, r F⟩
theorem rpl_strs {F : Hp} : ∀ (xs : List Str), RpL K F (xs.map Dt.str) (xs.map V.str)
  | [] => rfl
  | x :: xs => ⟨_, _, rfl, rfl, rpl_strs xs⟩
end
end Qw

set_option maxHeartbeats 1000000
namespace Qw
open PySem PySem.Spec PyProof.Rows L2 Evl
open Pw (Dt Rp RpL Wk none_sub get_set set_same set_ne R2d R1d RLd RLn Kq KqL truD isEmpty_rp flatD fl py pyL rangeD rangeD_len charsD wl_at Wl wl_range rangeD_nat find_split itemD spX2 Xm Xm0)
section
variable {P : Program} {w : World} {K : PySem.W.Frag} {env env1 env2 env3 : En} {te tv : TE} {d e z : Dt} {g g1 : TG} {wi wi1 : TI} {tt tt1 : TT}
/-- what is made so far, in the list at D -/
structure Mk2 (P : Program) (w : World) (K : PySem.W.Frag) (F0 H0 F1 H1 : Hp) (σ : L2.St) (env : En) (D : Addr) (l : List Dt) (F2 H2 : Hp) (acc : List V) : Prop where
  f : Ex F1 F2
  d : F2 D = none
  a : H2 D = some (.lst acc)
  r : RpL K F2 l acc
  s : Sm P w K F0 H0 F2 H2 σ env
  h : Ex H1 H2
  n : ∀ a o, H1 a = some o → F1 a = none → F2 a = none
theorem Mk2.wk {F0 H0 F1 H1 F2 H2 F3 H3 : Hp} {σ : L2.St} {D : Addr} {l : List Dt} {acc : List V} (m : Mk2 P w K F0 H0 F1 H1 σ env D l F2 H2 acc) (k : Wk F2 H2 F3 H3) : Mk2 P w K F0 H0 F1 H1 σ env D l F3 H3 acc :=
  ⟨m.f.trans k.f, k.n D _ m.a m.d, k.h D _ m.a, m.r.mono k.f, m.s.wk k, m.h.trans k.h, fun a o h h' => k.n a o (m.h a o h) (m.n a o h h')⟩
theorem Mk2.add {F0 H0 F1 H1 F2 H2 : Hp} {σ : L2.St} {D : Addr} {l : List Dt} {acc : List V} {v : V} (m : Mk2 P w K F0 H0 F1 H1 σ env D l F2 H2 acc) (r : Rp K F2 d v) (n1 : H1 D = none) (n0 : H0 D = none) (nO : ¬ Own σ env D) : Mk2 P w K F0 H0 F1 H1 σ env D (l ++ [d]) F2 (L2.upd H2 D (.lst (acc ++ [v]))) (acc ++ [v]) :=
  ⟨m.f, m.d, upd_same, RpL.append m.r (RpL.cons r RpL.nil), m.s.upd _ m.d n0 nO, fun a o h => by
    rw [upd_ne (ne_of_none h n1)]
    exact m.h a o h, m.n⟩
/-- [e for x in xs for y in inner], its parts changing nothing, no tests -/
theorem np_lc2T {α : Type} {vs vs1 : List Nat} (xs : List α) (dec : α → Dt) (hI : Ip P w K wi env (xs.map dec)) (inner : α → List Dt) (hn : (xs.flatMap inner).length ≤ 40000) (v : Dt → Dt)
    (hs : ∀ (i : Nat) (a : α), xs[i]? = some a → ∃ e1, Gc P w K g vs (dec a) (wipeE env vs) e1 ∧ Ip P w K wi1 e1 (inner a) ∧ ∀ d ∈ inner a, ∃ e2, Gc P w K g1 vs1 d (wipeE e1 vs1) e2 ∧ Ep P w K te e2 (v d)) : EpN P w K (tLc2 wi g tYes wi1 g1 tYes te vs vs1) env ((xs.flatMap inner).map v) := fun F0 H0 F H σ S Q q =>
  hI F0 H0 F H σ S _ fun J F1 H1 k1 W D hD => by
    have nF : F1 D = none := none_sub k1.s hD
    have S1 := S.wk k1
    have n0 : H0 D = none := none_sub S1.g.h hD
    have nO : ¬ Own σ env D := S1.ownNew hD
    unfold Wl at W
    rw [List.length_map] at W
    refine ⟨fun i m H2 => m = xs.length - i ∧ i ≤ xs.length ∧ ∃ F2 acc, Mk2 P w K F0 H0 F1 H1 σ env D (((xs.take i).flatMap inner).map v) F2 H2 acc, ⟨xs.length, by simp, Nat.zero_le _, F1, [], Ex.refl F1, nF, upd_same, rfl, S1.upd _ nF n0 nO, Ex.new hD, fun _ _ _ n => n⟩, ?_⟩
    rintro i m H2 ⟨rfl, hi, F2, acc, M⟩
    by_cases hlt : i < xs.length
    · refine .inr ⟨W.goes i H2 hlt (M.f.trans M.s.sub), fun H' => ∃ F2 acc, Mk2 P w K F0 H0 F1 H1 σ env D (((xs.take (i + 1)).flatMap inner).map v) F2 H' acc, fun H' q => ⟨xs.length - (i + 1), by omega, rfl, hlt, q⟩, fun x H2' y => ?_⟩
      obtain ⟨F3, d', w3, hd', r3⟩ := W.yields i H2 x H2' hlt (M.f.trans M.s.sub) y F2 M.f M.s.sub
      obtain ⟨a, ha⟩ : ∃ a, xs[i]? = some a := ⟨_, List.getElem?_eq_getElem hlt⟩
      rw [List.getElem?_map, ha] at hd'
      cases hd'
      obtain ⟨e1, hg, hi1, he⟩ := hs i a ha
      have etake : (xs.take (i + 1)).flatMap inner = (xs.take i).flatMap inner ++ inner a := by
        rw [List.take_add_one, ha]
        simp
      have htot : ((xs.take (i + 1)).flatMap inner).length ≤ 40000 := by
        refine Nat.le_trans ?_ hn
        rw [show xs.flatMap inner = (xs.take (i + 1)).flatMap inner ++ (xs.drop (i + 1)).flatMap inner by rw [← List.flatMap_append, List.take_append_drop]]
        simp
      have M3 := M.wk w3
      refine hg F0 H0 F3 H2' σ x (M3.s.wipe vs) r3 _ fun σ2 hw hO S3 => ⟨hw, ?_⟩
      have nO2 : ¬ Own σ2 e1 D := fun z => nO (own_wipe (hO D z))
      show wi1 σ2 H2' _
      refine hi1 F0 H0 F3 H2' σ2 S3 _ fun J1 F4 H4 k4 W1 => ?_
      unfold Wl at W1
      have M4 := M3.wk k4
      refine ⟨fun j k H5 => k = (inner a).length - j ∧ j ≤ (inner a).length ∧ ∃ F5 acc, Ex F4 F5 ∧ Mk2 P w K F0 H0 F1 H1 σ env D (((xs.take i).flatMap inner).map v ++ ((inner a).take j).map v) F5 H5 acc ∧ Sm P w K F0 H0 F5 H5 σ2 e1, ⟨(inner a).length, by simp, Nat.zero_le _, F4, acc, Ex.refl F4, by simpa using M4, S3.wk k4⟩, ?_⟩
      rintro j k H5 ⟨rfl, hj, F5, acc5, x5, M5, S5⟩
      by_cases hl2 : j < (inner a).length
      · refine .inr ⟨W1.goes j H5 hl2 (x5.trans S5.sub), fun H' => ∃ F5 acc, Ex F4 F5 ∧ Mk2 P w K F0 H0 F1 H1 σ env D (((xs.take i).flatMap inner).map v ++ ((inner a).take (j + 1)).map v) F5 H' acc ∧ Sm P w K F0 H0 F5 H' σ2 e1, fun H' q => ⟨(inner a).length - (j + 1), by omega, rfl, hl2, q⟩, fun x2 H5' y2 => ?_⟩
        obtain ⟨F6, d2, w6, hd2, r6⟩ := W1.yields j H5 x2 H5' hl2 (x5.trans S5.sub) y2 F5 x5 S5.sub
        obtain ⟨e2, hg1, he1⟩ := he d2 (List.mem_of_getElem? hd2)
        have M6 := M5.wk w6
        refine hg1 F0 H0 F6 H5' σ2 x2 ((S5.wk w6).wipe vs1) r6 _ fun σ3 hw3 _ S6 => ⟨hw3, ?_⟩
        show te σ3 H5' _
        refine he1 F0 H0 F6 H5' σ3 S6 _ fun vv F7 H7 k7 r7 => ?_
        have M7 := M6.wk k7
        refine ⟨acc5, M7.a, ?_, F7, acc5 ++ [vv], (x5.trans w6.f).trans k7.f, ?_, ((S5.wk w6).wk k7).upd _ M7.d n0 nO2⟩
        · rw [← M7.r.length]
          have h1 : ((inner a).take j).length ≤ (inner a).length := by simp; omega
          rw [etake, List.length_append] at htot
          simp only [List.length_append, List.length_map]
          exact sz_lt (by omega)
        · have := M7.add r7 hD n0 nO
          rw [List.append_assoc] at this
          have e3 : (inner a).take (j + 1) = (inner a).take j ++ [d2] := by
            rw [List.take_add_one, hd2]
            rfl
          rw [e3, List.map_append]
          exact this
      · have e : j = (inner a).length := by omega
        subst e
        refine .inl ⟨W1.stops H5 (x5.trans S5.sub), F5, acc5, ?_⟩
        rw [etake, List.map_append]
        rw [List.take_length] at M5
        exact M5
    · have e : i = xs.length := by omega
      subst e
      rw [List.take_length] at M
      exact .inl ⟨W.stops H2 (M.f.trans M.s.sub), q D acc F2 H2 (k1.trans ⟨M.f, M.h, M.s.sub, M.n⟩) (none_sub k1.h hD) M.d M.a M.r⟩
theorem se_fldX {W : WX} {x : Xn} {tv ta : TE} {n : Str} (h : Er P w K W tv env x env1) : Se P w K (sFld K ta tv n) env (.rz W x env1) := fun F0 H0 F H σ D S p => h F0 H0 F H σ S _ fun od F1 H1 k S1 r => p od F1 H1 σ k S1 r
end
end Qw

set_option maxHeartbeats 1000000
namespace Qw
open PySem PySem.Spec PyProof.Rows L2 Evl
open Pw (Dt Rp RpL Wk none_sub get_set set_same set_ne R2d R1d RLd RLn Kq KqL truD isEmpty_rp flatD fl py pyL rangeD rangeD_len charsD wl_at Wl wl_range rangeD_nat find_split itemD spX2 Xm Xm0)
section
variable {P : Program} {w : World} {K : PySem.W.Frag} {env : En}
/-- {k: v, ..} as it is written -/
def EpP (P : Program) (w : World) (K : PySem.W.Frag) (env : En) : List (TE × TE) → KD → Prop
  | [], [] => True
  | t :: ts, p :: ps => Ep P w K t.1 env (kD p.1) ∧ Ep P w K t.2 env p.2 ∧ EpP P w K env ts ps
  | _, _ => False
theorem pairs_run {F0 H0 : Hp} {σ : L2.St} : ∀ {ts : List (TE × TE)} {kvs : KD} {F H : Hp} {Q : List (V × V) → Hp → Prop}, EpP P w K env ts kvs → Sm P w K F0 H0 F H σ env →
    (∀ (q : List (Key × V)) F' H', Wk F H F' H' → PrD K F' kvs q → Q (q.map fun kv => (kV kv.1, kv.2)) H') → tPairs ts σ H Q
  | [], [], F, H, Q, _, S, q => q [] F H (Wk.refl S.sub) ⟨rfl, rfl⟩
  | [], _ :: _, _, _, _, h, _, _ => h.elim
  | _ :: _, [], _, _, _, h, _, _ => h.elim
  | t :: ts, p :: ps, F, H, Q, h, S, q => by
    obtain ⟨h1, h2, h3⟩ := h
    refine h1 F0 H0 F H σ S _ fun x F1 H1 k1 r1 => h2 F0 H0 F1 H1 σ (S.wk k1) _ fun y F2 H2 k2 r2 => pairs_run h3 ((S.wk k1).wk k2) fun qs F3 H3 k3 r3 => ?_
    rw [kD_rp r1]
    exact q ((p.1, y) :: qs) F3 H3 ((k1.trans k2).trans k3) (.cons (r2.mono k3.f) r3)
theorem PrD.merge {F : Hp} : ∀ {more kvs : KD} {q ms : List (Key × V)}, PrD K F kvs q → PrD K F more ms → PrD K F (more.foldl (fun a p => putD a p.1 p.2) kvs) (mergeK q ms)
  | [], kvs, q, ms, h, hm => by
    rw [hm.nil]
    exact h
  | p :: more, kvs, q, ms, h, hm => by
    obtain ⟨v, ms', rfl, r, t⟩ := hm.inv
    exact PrD.merge (more := more) (kvs := putD kvs p.1 p.2) (q := putK q p.1 v) (ms := ms') (h.put p.1 r) t
theorem po_disp {ts : List (TE × TE)} {kvs : KD} (h : EpP P w K env ts kvs) (hn : kvs.length ≤ 15) : EpO P w K (tDisp ts) env (.dk (kvs.foldl (fun a p => putD a p.1 p.2) [])) := fun F0 H0 F H σ S Q q p hp => by
  have nF : F p = none := none_sub S.sub hp
  have n0 : H0 p = none := none_sub S.g.h hp
  have nO := S.ownNew hp
  refine pairs_run h (S.upd (.dK []) nF n0 nO) fun qs F1 H1 k1 r => ⟨k1.h p _ upd_same, qs, rfl, by rw [← r.length]; exact hn, ?_⟩
  have kk : Wk F H F1 (L2.upd H1 p (.dK (mergeK [] qs))) := by
    refine ⟨k1.f, fun a u z => ?_, fun a u z => ?_, fun a u z n => k1.n a u (by rw [upd_ne (ne_of_none z hp)]; exact z) n⟩
    · rw [upd_ne (ne_of_none z hp)]
      exact k1.h a u (by rw [upd_ne (ne_of_none z hp)]; exact z)
    · have : F1 p = none := k1.n p _ upd_same nF
      rw [upd_ne (ne_of_none z this)]
      exact k1.s a u z
  exact q p _ F1 _ kk hp (k1.n p _ upd_same nF) upd_same (odk_of (PrD.merge ⟨rfl, rfl⟩ r))
end
end Qw

/-! own layer: list + list where both are known as read lists -/
set_option maxHeartbeats 400000
namespace Qw
open PySem PySem.Spec PyProof.Rows L2
open Evl hiding ea_cons
open Pw (Dt Rp RpL Wk R2d R1d RLd RLn Kq KqL)
def rCatR (K : PySem.W.Frag) : R2 := fun x y H Q => ∃ a b us vs, x = .ref a ∧ y = .ref b ∧ SqL K H a us ∧ SqL K H b vs ∧ us.length + vs.length ≤ sizeLine ∧ ∀ p, H p = none → Q (.ref p) (upd H p (.lst (us ++ vs)))
section
variable {X : Cx}
theorem op_catS : OpR X (binaryOp .Add) (rCatR X.K) := by
  intro pins s σ H x y v u Q I rx ry h
  obtain ⟨a, b, us, vs, rfl, rfl, ha, hb, hz, q⟩ := h
  cases rx
  cases ry
  obtain ⟨its, r1, p1, _⟩ := I.list ha
  obtain ⟨its2, r2, p2, _⟩ := I.list hb
  obtain ⟨⟨c1, d1, t1, l1⟩, g1, e1, n1, k1⟩ := p1.isList
  obtain ⟨⟨c2, d2, t2, l2⟩, g2, e2, n2, k2⟩ := p2.isList
  simp only at e1 k1 e2 k2
  subst e1 k1 e2 k2
  have hs : its.toArray.size + its2.toArray.size ≤ sizeLine := by
    rw [List.size_toArray, List.size_toArray, ← r1.length, ← r2.length]
    exact hz
  have eq : its.toArray ++ its2.toArray = (its ++ its2).toArray := by simp
  refine concat_meets ⟨_, g1, rfl⟩ ⟨_, g2, rfl⟩ noFill_list_add seq_list_add PySem.F.slot_list_add PySem.F.entry_list_add (PySem.F.args_list_add_2 _ _) (list_addW a b its.toArray its2.toArray n1 n2 d1 d2 l1 l2 hs) ⟨g1, g2, ?_⟩
  rw [eq]
  exact ⟨.ref _, _, I.lnew (t' := s.toks) (r1.append r2) (by rw [List.length_append]; exact hz), rfl, q _ I.fresh⟩
end
section
variable {K : PySem.W.Frag}
variable {P : Program} {w : World} {env : En} {ta tb : TE}
theorem RpL.rev {F : Hp} : ∀ {ds : List Dt} {us : List V}, RpL K F ds us → RpL K F ds.reverse us.reverse
  | [], us, h => by
    have : us = [] := by
      have := RpL.length h
      simpa using this.symm
    subst this
    exact h
  | d :: ds, us, h => by
    obtain ⟨v, vs, rfl, r, h⟩ := h
    rw [List.reverse_cons, List.reverse_cons]
    exact RpL.append (RpL.rev h) ⟨v, [], rfl, r, rfl⟩
theorem r2_cat {ds es : List Dt} (hl : ds.length + es.length ≤ 100000) : R2d K (rCatR K) (.lst ds) (.lst es) (.lst (ds ++ es)) := fun F H x y s r1 r2 Q q => by
  obtain ⟨a, us, rfl, g1, e1⟩ := r1
  obtain ⟨b, vs, rfl, g2, e2⟩ := r2
  refine ⟨a, b, us, vs, rfl, rfl, ex_l s g1, ex_l s g2, by rw [← e1.length, ← e2.length]; exact sz_of hl, fun p hp => ?_⟩
  have k : Wk F H (L2.upd F p (.lst (us ++ vs))) (L2.upd H p (.lst (us ++ vs))) := Wk.new s _ hp
  exact q (.ref p) _ _ k ⟨p, us ++ vs, rfl, .inl (.inl upd_same), (e1.append e2).mono k.f⟩
theorem ep_revL {ds : List Dt} (h : Ep P w K ta env (.lst ds)) : Ep P w K (tRevL K ta) env (.lst ds.reverse) := fun F0 H0 F H σ S Q q =>
  h F0 H0 F H σ S _ fun v F1 H1 k1 r => by
    obtain ⟨a, us, rfl, g1, e1⟩ := r
    refine ⟨a, us, rfl, ex_l k1.s g1, fun p hp => ?_⟩
    have k : Wk F1 H1 (L2.upd F1 p (.lst us.reverse)) (L2.upd H1 p (.lst us.reverse)) := Wk.new k1.s _ hp
    exact q (.ref p) _ _ (k1.trans k) ⟨p, us.reverse, rfl, .inl (.inl upd_same), (RpL.rev e1).mono k.f⟩
theorem rl_strI {i : Int} (hi : i.natAbs < 1000000) : RLd K (fun xs H Q => ∃ j, xs = [V.int j] ∧ j.natAbs.log2 < 1920 ∧ Q (.str (toString j)) H) [.int i] (.str (toString i)) := fun F H vs s r Q q => by
  obtain ⟨v, r1, rfl, e1, e2⟩ := r
  cases e1; cases e2
  refine ⟨i, rfl, ?_, q _ F H (Wk.refl s) rfl⟩
  have h1 : i.natAbs.log2 ≤ 20 := by
    by_cases z : i.natAbs = 0
    · rw [z]; decide
    · exact Nat.le_of_lt ((Nat.log2_lt z).mpr (by omega))
  omega
end
end Qw

/-! own layer: a loop that returns at the first hit -/
set_option maxHeartbeats 400000
namespace Qw
open PySem PySem.Spec PyProof.Rows L2
open Evl hiding ea_cons
open Pw (Dt Rp RpL Wk R2d R1d RLd RLn Kq KqL)
theorem first_at {α : Type} {p : α → Bool} : ∀ {l : List α} {a : α}, l.find? p = some a → ∃ i, l[i]? = some a ∧ p a = true ∧ ∀ (j : Nat) x, j < i → l[j]? = some x → p x = false
  | [], _, h => by simp at h
  | b :: l, a, h => by
    rw [List.find?_cons] at h
    cases hb : p b with
    | true =>
      rw [hb] at h
      cases h
      exact ⟨0, rfl, hb, fun j x hj => absurd hj (Nat.not_lt_zero j)⟩
    | false =>
      rw [hb] at h
      obtain ⟨i, h1, h2, h3⟩ := first_at h
      refine ⟨i + 1, h1, h2, fun j x hj hx => ?_⟩
      cases j with
      | zero => cases hx; exact hb
      | succ j => exact h3 j x (by omega) hx
section
variable {P : Program} {w : World} {K : PySem.W.Frag} {env : En}
theorem se_first {α : Type} {wi : TI} {g : TG} {tb s2 : TS} {o : Out} (xs : List α) (dec : α → Dt) (p : α → Bool) (z : α → Dt) (hI : Ip P w K wi env (xs.map dec)) (E : En) (h0 : Le env E)
    (hs : ∀ a ∈ xs, ∃ e1, Ge P w K g (dec a) E e1 ∧ (p a = true → Se P w K tb e1 (.rt (z a))) ∧ (p a = false → Se P w K tb e1 (.nc E)))
    (h2 : xs.find? p = none → Se P w K s2 E o) (h3 : ∀ a, xs.find? p = some a → o = .rt (z a)) : Se P w K (tSeq (tFor wi g tb) s2) env o := by
  cases h : xs.find? p with
  | none =>
    have hn : ∀ a ∈ xs, p a = false := fun a ha => by simpa using List.find?_eq_none.mp h a ha
    refine se_seq (se_for (ie_p hI) (fun _ => E) xs.length (by simp) h0 (fun i d hi hd => ?_) (.inl ⟨by simp, rfl⟩)) (h2 h)
    rw [List.getElem?_map] at hd
    obtain ⟨a, ha, rfl⟩ := Option.map_eq_some_iff.mp hd
    have hm := List.mem_of_getElem? ha
    obtain ⟨e1, g1, _, g3⟩ := hs a hm
    exact ⟨e1, g1, g3 (hn a hm)⟩
  | some a =>
    rw [h3 a h]
    obtain ⟨i, h1, h4, h5⟩ := first_at h
    have hi : i < xs.length := (List.getElem?_eq_some_iff.mp h1).1
    refine se_seqF (se_for (ie_p hI) (fun _ => E) i (by simp; omega) h0 (fun j d hj hd => ?_) (.inr ?_))
    · rw [List.getElem?_map] at hd
      obtain ⟨x, hx, rfl⟩ := Option.map_eq_some_iff.mp hd
      obtain ⟨e1, g1, _, g3⟩ := hs x (List.mem_of_getElem? hx)
      exact ⟨e1, g1, g3 (h5 j x hj hx)⟩
    · obtain ⟨e1, g1, g2, _⟩ := hs a (List.mem_of_getElem? h1)
      exact ⟨dec a, e1, by rw [List.getElem?_map, h1]; rfl, g1, .inl ⟨rfl, (fun _ z => nomatch z), (fun _ z => nomatch z), g2 h4⟩⟩
end
end Qw

/-! own layer: tuples cut and joined -/
set_option maxHeartbeats 400000
namespace Qw
open PySem PySem.Spec PyProof.Rows L2
open Evl hiding ea_cons
open Pw (Dt Rp RpL Wk R2d R1d RLd RLn Kq KqL)
section
variable {X : Cx}
theorem op_mulS : OpR X (binaryOp .Mult) (fun x y H Q => ∃ i n, x = V.str i ∧ y = V.int n ∧ MulOk i n ∧ Q (.str (Txt.mul i n)) H) := by
  intro pins s σ H x y v u Q I rx ry h
  obtain ⟨i, n, rfl, rfl, hm, q⟩ := h
  obtain ⟨t, rfl⟩ := rx
  obtain ⟨t', rfl⟩ := ry
  exact SB.mul hm fun t' tk => ⟨.str (Txt.mul i n), H, I.tok _, ⟨_, rfl⟩, q⟩
end
section
variable {P : Program} {w : World} {K : PySem.W.Frag} {env : En} {te : TE} {tl th : TO}
def cutD (ds : List Dt) (lo hi : Option Int) : List Dt := (ds.drop (HT.sIx ds.length 0 lo)).take (HT.sIx ds.length ds.length hi - HT.sIx ds.length 0 lo)
theorem ep_slT {ds : List Dt} {lo hi : Option Int} (h : Ep P w K te env (.tup ds)) (h1 : Op P w K tl env lo) (h2 : Op P w K th env hi) : Ep P w K (tSl (rSlA K) te tl th) env (.tup (cutD ds lo hi)) := fun F0 H0 F H σ S Q q =>
  h F0 H0 F H σ S _ fun v F1 H1 w1 r => h1 F0 H0 F1 H1 σ (S.wk w1) _ fun F2 H2 w2 => h2 F0 H0 F2 H2 σ ((S.wk w1).wk w2) _ fun F3 H3 w3 => by
    obtain ⟨a, vs, rfl, g1, g2⟩ := r
    have g3 := g2.mono (w2.f.trans w3.f)
    refine ⟨a, vs, rfl, ex_t (w1.s.trans (w2.h.trans w3.h)) g1, fun ⟨z1, z2⟩ => ?_, fun _ p hp => ?_⟩
    · have e : cutD ds lo hi = ds := by
        unfold cutD
        rw [g2.length, z1, z2]
        simp [← g2.length]
      rw [e] at q
      exact q (.ref a) F3 H3 ((w1.trans w2).trans w3) ⟨a, vs, rfl, ex_t (w2.f.trans w3.f) g1, g3⟩
    · have k : Wk F3 H3 (L2.upd F3 p (.tup (cutV vs lo hi))) (L2.upd H3 p (.tup (cutV vs lo hi))) := Wk.new w3.s _ hp
      refine q (.ref p) _ _ (((w1.trans w2).trans w3).trans k) ⟨p, _, rfl, SqT.of upd_same, RpL.mono k.f ?_⟩
      unfold cutD cutV
      rw [← g2.length]
      exact RpL.take _ (RpL.drop _ g3)
theorem r2_mulS {i : Str} {n : Int} (h : MulOk i n) : R2d K (fun x y H Q => ∃ i n, x = V.str i ∧ y = V.int n ∧ MulOk i n ∧ Q (.str (Txt.mul i n)) H) (.str i) (.int n) (.str (Txt.mul i n)) := fun F H x y s r1 r2 Q q => ⟨i, n, r1, r2, h, q _ F H (Wk.refl s) rfl⟩
theorem r2_catT {ds es : List Dt} (hl : ds.length + es.length ≤ 100000) : R2d K (rCatA K) (.tup ds) (.tup es) (.tup (ds ++ es)) := fun F H x y s r1 r2 Q q => by
  obtain ⟨a, us, rfl, g1, e1⟩ := r1
  obtain ⟨b, vs, rfl, g2, e2⟩ := r2
  refine ⟨a, b, us, vs, rfl, rfl, ex_t s g1, ex_t s g2, sz_of (by rw [← e1.length, ← e2.length]; exact hl), fun z => ?_, fun _ z => ?_, fun _ _ p hp => ?_⟩
  · have : ds = [] := List.length_eq_zero_iff.mp (by rw [e1.length, z]; rfl)
    rw [this] at q
    exact q _ F H (Wk.refl s) ⟨b, vs, rfl, g2, e2⟩
  · have : es = [] := List.length_eq_zero_iff.mp (by rw [e2.length, z]; rfl)
    rw [this, List.append_nil] at q
    exact q _ F H (Wk.refl s) ⟨a, us, rfl, g1, e1⟩
  · have k : Wk F H (L2.upd F p (.tup (us ++ vs))) (L2.upd H p (.tup (us ++ vs))) := Wk.new s _ hp
    exact q (.ref p) _ _ k ⟨p, us ++ vs, rfl, SqT.of upd_same, (e1.append e2).mono k.f⟩
end
end Qw

/-! own layer: ends -/
set_option maxHeartbeats 1000000
namespace Qw
open PySem PySem.Spec PyProof.Rows L2
open Evl hiding ea_cons
open Pw (spX2)
def oexB (K : PySem.W.Frag) (C : Addr) : Bool := (match K.lookup C with
  | some ⟨.type "type", _, .cls cd, sl⟩ => (match cd.mro, sl.toList with
    | .ref C' :: bm, [_, _, _, _, some (.builtin n), _] => C' == C && (n == "ValueError.__new__" && (!cd.hasDel && (cd.hasDict && PySem.HandSPX.refsVE bm)))
    | _, _ => false)
  | _ => false) && (decide (PySem.W.findIn K (.ref C) "__setattr__" = some (some (.builtin "object.__setattr__"))) && (decide (PySem.W.subIn K (.ref C) (.type "BaseException") = some true) && (decide (PySem.W.typeIn K (.ref C) = some (.type "type")) && PySem.W.keepIn K (.ref C))))
theorem oexB_ok {K : PySem.W.Frag} {C : Addr} (h : oexB K C = true) : OexC K C := by
  unfold oexB at h
  obtain ⟨h0, h⟩ := Bool.and_eq_true_iff.mp h
  simp only [Bool.and_eq_true, decide_eq_true_eq] at h
  obtain ⟨h2, h3, h4, h5⟩ := h
  refine ⟨?_, h2, h3, h4, h5⟩
  split at h0
  · rename_i dd cd sl ho
    split at h0
    · rename_i C' bm k0 k1 k2 k3 n k5 hm hs
      simp only [Bool.and_eq_true, beq_iff_eq, Bool.not_eq_true'] at h0
      obtain ⟨rfl, rfl, hdel, hdict, hv⟩ := h0
      obtain ⟨nm, bs, mro, ns, qn, hd, sn, sub, ab, col, del⟩ := cd
      obtain ⟨l⟩ := sl
      dsimp only at hm hdel hdict hs
      subst hm hdel hdict hs
      exact ⟨nm, qn, ns, bs, bm, sn, sub, ab, col, dd, k0, k1, k2, k3, k5, ho, hv⟩
    · cases h0
  · cases h0
section
variable {P : Program} {w : World} {K : PySem.W.Frag} {mg : Str → Option Value} {base : Heap} {R : List Pw.Dt → Rs → Prop}
theorem init2c {C fI : Addr} {fd : FuncData} {qual f1 f2 g1 g2 : Str} {params : Arguments} {body : List Stmt} {scope : Scope} (F : FunD K "__init__" qual params body scope [] [] fI fd) (S : FnScope [("self" : Str), g1, g2] [("self" : Str), g1, g2] scope)
    (T : OexC K C) (n1 : PySem.W.findIn K (.ref C) f1 = some none) (n2 : PySem.W.findIn K (.ref C) f2 = some none)
    (hd : ∀ (cdv : Value) (A : Around) (outer : List Env) (s : Shared) (H : Hp) (E : XK), PSs (cxOf CX0 P w K mg base [("self" : Str), g1, g2] qual scope fI cdv A outer s H E) body (tSeq (tOst K f1 (tVar 0) (tVar 1)) (tOst K f2 (tVar 0) (tVar 2)))) : FnOk P w K mg base CX0 1 fI fd [("self" : Str), g1, g2] (spX2 C f1 f2) := by
  refine F.ok S (fun vs H Q E h => ?_) fun cdv A outer s H vs Q E hr h => ⟨_, hd cdv A outer s H E, ?_⟩
  · obtain ⟨a, v1, v2, rfl, _⟩ := h
    rfl
  · obtain ⟨a, v1, v2, rfl, ha, q⟩ := h
    refine ⟨v1, rfl, .ref a, rfl, a, C, rfl, T, n1, .inl ⟨ha, fun dx hx ne => ?_⟩⟩
    refine ⟨v2, rfl, .ref a, rfl, a, C, rfl, T, n2, .inr ⟨dx, [(f1, v1)], upd_same, ?_, (by show 1 ≤ 900; decide), ?_⟩⟩
    · rw [upd_ne ne, upd_same]
    · refine q dx _ hx ne ?_ upd_same fun b h1 h2 => ?_
      · rw [upd_ne ne.symm, upd_same]
      · rw [upd_ne h2, upd_ne h1, upd_ne h2]
/-- the law's own def: which def it is is told -/
def FxL (P : Program) (w : World) (K : PySem.W.Frag) (mg : Str → Option Value) (base : Heap) (k : Nat) (x : Str) (ps : List Str) (sp : Sp) (st : Stmt) : Prop :=
  ∃ f fd, mg x = some (.ref f) ∧ FunD K x x (defArgs st) (defBody st) (defScope st) [] [] f fd ∧ FnOk P w K mg base (L2.CX P w) k f fd ps sp
theorem FxL.of {x : Str} {ps N : List Str} {st : Stmt} {k : Nat} (D : Dx K mg x ps st) (S : FnScope N ps (defScope st)) (hl : ∀ ds r, R ds r → ds.length = ps.length)
    (hb : ∀ (f : Addr) (cdv : Value) (A : Around) (outer : List Env) (s : Shared) (H : Hp) (E : XK), Room k (A.deeper (envOfC x (defScope st) s.heap.objs.size f cdv)) →
      ∃ t, PSs (cxOf (L2.CX P w) P w K mg base N x (defScope st) f cdv A outer s H E).nox (defBody st) t ∧ ∀ ds r, R ds r → Does P w K E t (ds.map Sl.d ++ List.replicate (N.length - ds.length) Sl.u) r) :
    FxL P w K mg base (k + 1) x ps (spR P w K R) st := by
  obtain ⟨f, fd, h1, F, h3⟩ := D
  refine ⟨f, fd, h1, F, F.ok S (fun vs H Q E h => spR_len hl vs H Q E h) fun cdv A outer s H vs Q E hr h => ?_⟩
  obtain ⟨t, ht, hs⟩ := hb f cdv A outer s H E hr
  exact ⟨t, PSs.nox ht, run_r h hs⟩
end
end Qw

/-! own layer: raising a class of the text without an __init__, with a text -/
set_option maxHeartbeats 400000
namespace Qw
open PySem PySem.Spec PyProof.Rows L2
def Xm1 (K : PySem.W.Frag) (mg : Str → Option Value) (x : Str) (C : Addr) : Prop :=
  mg x = some (.ref C) ∧ PySem.W.excIn K C He.veBase "ValueError.__new__" = true ∧ PySem.W.keepIn K (.ref C) = true ∧ PySem.W.subIn K (.ref C) (.type "BaseException") = some true ∧ PySem.W.typeIn K (.ref C) = some (.type "type")
theorem pm_1 {X : Cx} {x m : Str} {C : Addr} {j : Nat} {p p2 pos : Pos} (G : Xm1 X.K X.mg x C) (hg : Gl X x := by rfl) (hdb : (x == ("__debug__" : Str)) = false := by decide) :
    PMk X (.Call (.Name x p) [.Constant (.str m) j p2] [] pos) (fun _ H Q => Q (.ref C) none H) :=
  pmk_own PySem.F.excBase_ValueError G.2.1 G.1 G.2.2.1 (raises_own G.2.2.2.1 G.2.2.2.2) hg hdb
end Qw

set_option maxHeartbeats 4000000
/-! tuple * 0, tuple * 1 -/
namespace L2
open PySem PySem.Spec PyProof.Rows
theorem tuple_mulW1 (l : Addr) (items : Array Value) (n : Nat) (dd : Option Addr) (sl : Array (Option Value)) (x : Int) (u : Tok) (c0 : (decide (x < -(2 ^ 63)) || decide (x ≥ 2 ^ 63)) = false) (c1 : (items.isEmpty || x == 1) = true) :
    Meets (Builtin.«tuple.__mul__» ⟨[.ref l, .int x u], []⟩) (fun _ R s => s.heap.get? l = some { cls := .type "tuple", dict := dd, data := .seq items n, slots := sl } ∧ R (.ok (.ret (Value.ref l))) s) :=
  .of_wp fun prog w A R s h => by
    obtain ⟨hp, g, d, tk, os⟩ := s
    obtain ⟨hl, h⟩ := h
    have f1 := AutoSeq1.idx_int
    wp_walk using wpAny_loadPart' hl
    repeat (first
      | (refine wpAny_ite_false (decide_eq_false (by rw [c0]; exact Bool.false_ne_true)) ?_; wp_walk using wpAny_loadPart' hl)
      | (refine wpAny_ite_true (decide_eq_true c1) ?_; wp_walk using wpAny_loadPart' hl))
    exact ⟨_, rfl, h⟩
theorem tuple_mulW0 (l : Addr) (items : Array Value) (n : Nat) (dd : Option Addr) (sl : Array (Option Value)) (x : Int) (u : Tok) (c0 : (decide (x < -(2 ^ 63)) || decide (x ≥ 2 ^ 63)) = false) (c1 : (items.isEmpty || x == 1) = false) (c2 : (decide (x ≤ 0) || items.isEmpty) = true) :
    Meets (Builtin.«tuple.__mul__» ⟨[.ref l, .int x u], []⟩) (fun _ R s => s.heap.get? l = some { cls := .type "tuple", dict := dd, data := .seq items n, slots := sl } ∧
      R (.ok (.ret (Value.ref s.heap.objs.size))) { s with heap := s.heap.push { cls := Value.type "tuple", data := Data.seq #[] }, toks := s.toks }) :=
  .of_wp fun prog w A R s h => by
    obtain ⟨hp, g, d, tk, os⟩ := s
    obtain ⟨hl, h⟩ := h
    have f1 := AutoSeq1.idx_int
    wp_walk using wpAny_loadPart' hl
    repeat (first
      | (refine wpAny_ite_false (decide_eq_false (by rw [c0]; exact Bool.false_ne_true)) ?_; wp_walk using wpAny_loadPart' hl)
      | (refine wpAny_ite_false (decide_eq_false (by rw [c1]; exact Bool.false_ne_true)) ?_; wp_walk using wpAny_loadPart' hl)
      | (refine wpAny_ite_true (decide_eq_true c2) ?_; wp_walk using wpAny_loadPart' hl))
    exact ⟨_, rfl, h⟩
/-- t * k, k from 0 to 1000 -/
def rRepA (K : PySem.W.Frag) : R2 := fun x y H Q => ∃ l k xs, x = .ref l ∧ y = .int k ∧ SqT K H l xs ∧ xs ≠ [] ∧ 0 ≤ k ∧ k ≤ 1000 ∧ xs.length ≤ 1000 ∧ (k = 1 → Q (.ref l) H) ∧ (k ≠ 1 → ∀ p, H p = none → Q (.ref p) (upd H p (.tup (List.replicate k.toNat xs).flatten)))
section
variable {X : Cx}
theorem op_repA : OpR X (binaryOp .Mult) (rRepA X.K) := by
  intro pins s σ H x y v u Q I rx ry h
  obtain ⟨l, k, xs, rfl, rfl, hT, hne, h1, h2, hz, q1, q2⟩ := h
  by_cases hk : 2 ≤ k
  · exact op_repT pins s σ H _ _ v u Q I rx ry ⟨l, k, xs, rfl, rfl, hT, hne, hk, h2, hz, q2 (by omega)⟩
  cases rx
  obtain ⟨t, rfl⟩ := ry
  obtain ⟨its, r, ⟨⟨cls, dd, data, sl⟩, ho, hc, n, hd⟩, hs⟩ := I.tuple hT
  simp only at hc hd
  subst hc hd
  have hle : its.length = xs.length := r.length.symm
  have hn : its ≠ [] := fun e => hne (by
    rw [e] at hle
    exact List.eq_nil_of_length_eq_zero hle.symm)
  have hi : its.toArray.isEmpty = false := by
    cases its with
    | nil => exact absurd rfl hn
    | cons a b => rfl
  have c0 : (decide (k < -(2 ^ 63)) || decide (k ≥ 2 ^ 63)) = false := by
    rw [decide_eq_false (by omega), decide_eq_false (by omega)] <;> rfl
  by_cases hk1 : k = 1
  · have c1 : (its.toArray.isEmpty || k == 1) = true := by rw [hi, Bool.false_or, hk1]; rfl
    exact wpAny_binaryOp_repeat_ref (T := "tuple") (U := "int") (by decide) ⟨_, ho, rfl⟩ (fun s' => typeIs_int s' k t) noFill_tuple_mul F.fills_int_mul F.slot_int_rmul repeat_tuple F.slot_int_index.lookup
      (call_meets F.slot_int_rmul (typeIs_int s k t) F.entry_int_rmul (F.args_int_rmul_2 _ _) (int_rmul_tuple k t l its.toArray n dd sl)
        ⟨ho, rfl, ⟨_, ho, rfl⟩, call_meets F.slot_tuple_mul ⟨_, ho, rfl⟩ F.entry_tuple_mul (F.args_tuple_mul_2 _ _) (tuple_mulW1 l its.toArray n dd sl k t c0 c1) ⟨ho, .ref l, H, I, rfl, q1 hk1⟩⟩)
  · have hk0 : k = 0 := by omega
    have c1 : (its.toArray.isEmpty || k == 1) = false := by
      rw [hi, Bool.false_or]
      exact beq_eq_false_iff_ne.mpr (by omega)
    have c2 : (decide (k ≤ 0) || its.toArray.isEmpty) = true := by rw [decide_eq_true (by omega)]; rfl
    refine wpAny_binaryOp_repeat_ref (T := "tuple") (U := "int") (by decide) ⟨_, ho, rfl⟩ (fun s' => typeIs_int s' k t) noFill_tuple_mul F.fills_int_mul F.slot_int_rmul repeat_tuple F.slot_int_index.lookup
      (call_meets F.slot_int_rmul (typeIs_int s k t) F.entry_int_rmul (F.args_int_rmul_2 _ _) (int_rmul_tuple k t l its.toArray n dd sl)
        ⟨ho, rfl, ⟨_, ho, rfl⟩, call_meets F.slot_tuple_mul ⟨_, ho, rfl⟩ F.entry_tuple_mul (F.args_tuple_mul_2 _ _) (tuple_mulW0 l its.toArray n dd sl k t c0 c1 c2) ⟨ho, ?_⟩⟩)
    have e : (List.replicate k.toNat xs).flatten = [] := by rw [hk0]; rfl
    refine ⟨.ref s.heap.objs.size, _, I.laid (t' := s.toks) (o := .tup (List.replicate k.toNat xs).flatten) (fun b ob q => Heap.get?_push_of_some _ q) (Nat.le_refl _) ?_, rfl, q2 hk1 _ (I.hok.fresh (Nat.le_refl _))⟩
    rw [e]
    exact ⟨Nat.zero_le _, [], .nil, IsTup.new _ _⟩
end
end L2

set_option maxHeartbeats 1000000
/-! ### typed mirrors: what a piece of a program gives, as a value of Lean -/
namespace Mw
open PySem PySem.Spec PyProof.Rows L2 Qw
open Evl hiding ea_cons
open Pw (Dt Rp RpL Wk R2d R1d RLd RLn Kq KqL none_sub)
/-- an exception: its class by name -/
structure Exn where
  C : Str
  fs : List Str
  ds : List Dt
def Exn.xn (K : PySem.W.Frag) (e : Exn) : Xn := ⟨He.ga K e.C, e.fs, e.ds⟩
inductive R (α : Type) where
  | ok (a : α) | ex (x : Exn) | no
namespace R
variable {α β γ σ : Type}
def bind : R α → (α → R β) → R β
  | .ok a, f => f a
  | .ex x, _ => .ex x
  | .no, _ => .no
def bind2 : R (α × σ) → (α → σ → R β) → R β
  | .ok p, f => f p.1 p.2
  | .ex x, _ => .ex x
  | .no, _ => .no
def nox : R α → R α
  | .ok a => .ok a
  | _ => .no
def need (c : Prop) [Decidable c] (m : R α) : R α := if c then m else .no
@[simp] theorem bind_ok {a : α} {f : α → R β} : (R.ok a).bind f = f a := rfl
@[simp] theorem bind_ex {x : Exn} {f : α → R β} : (R.ex x).bind f = .ex x := rfl
@[simp] theorem bind_no {f : α → R β} : (R.no).bind f = .no := rfl
@[simp] theorem bind2_ok {a : α} {s : σ} {f : α → σ → R β} : (R.ok (a, s)).bind2 f = f a s := rfl
@[simp] theorem nox_ok {a : α} : (R.ok a).nox = .ok a := rfl
theorem bind_bind {m : R α} {f : α → R β} {g : β → R γ} : (m.bind f).bind g = m.bind fun a => (f a).bind g := by cases m <;> rfl
theorem bind_of {m : R α} {f : α → R β} {b : β} (h : m.bind f = .ok b) : ∃ a, m = .ok a ∧ f a = .ok b := by
  cases m with
  | ok a => exact ⟨a, rfl, h⟩
  | ex x => cases h
  | no => cases h
theorem need_pos {c : Prop} [Decidable c] {m : R α} (h : c) : need c m = m := if_pos h
theorem nox_of {m : R α} {a : α} (h : m.nox = .ok a) : m = .ok a := by
  cases m with
  | ok b => exact h
  | ex x => cases h
  | no => cases h
theorem nox_ne {m : R α} {x : Exn} (h : m.nox = .ex x) : False := by cases m <;> cases h
end R
/-- how a block ends -/
inductive Ctl (σ τ β : Type) where
  | nx (s : σ) | ct (t : τ) | bk (t : τ) | rt (b : β)
namespace R
variable {α β γ σ σ' τ : Type}
/-- then .. -/
def bindC : R (Ctl σ τ β) → (σ → R (Ctl σ' τ β)) → R (Ctl σ' τ β)
  | .ok (.nx s), f => f s
  | .ok (.ct t), _ => .ok (.ct t)
  | .ok (.bk t), _ => .ok (.bk t)
  | .ok (.rt b), _ => .ok (.rt b)
  | .ex x, _ => .ex x
  | .no, _ => .no
@[simp] theorem bindC_nx {s : σ} {f : σ → R (Ctl σ' τ β)} : (R.ok (.nx s)).bindC f = f s := rfl
@[simp] theorem bindC_rt {b : β} {f : σ → R (Ctl σ' τ β)} : (R.ok (.rt b)).bindC f = .ok (.rt b) := rfl
@[simp] theorem bindC_ct {t : τ} {f : σ → R (Ctl σ' τ β)} : (R.ok (.ct t)).bindC f = .ok (.ct t) := rfl
@[simp] theorem bindC_bk {t : τ} {f : σ → R (Ctl σ' τ β)} : (R.ok (.bk t)).bindC f = .ok (.bk t) := rfl
@[simp] theorem bindC_ex {x : Exn} {f : σ → R (Ctl σ' τ β)} : (R.ex x).bindC f = .ex x := rfl
theorem bind_bindC {m : R α} {f : α → R (Ctl σ τ β)} {g : σ → R (Ctl σ' τ β)} : (m.bind f).bindC g = m.bind fun a => (f a).bindC g := by cases m <;> rfl
theorem bind2_bindC {m : R (α × γ)} {f : α → γ → R (Ctl σ τ β)} {g : σ → R (Ctl σ' τ β)} : (m.bind2 f).bindC g = m.bind2 fun a s => (f a s).bindC g := by cases m <;> rfl
/-- what a def's body gives -/
def fin : R (Ctl σ τ β) → R β
  | .ok (.rt b) => .ok b
  | .ex x => .ex x
  | _ => .no
/-- .. a def that gives None -/
def finU : R (Ctl σ τ Unit) → R Unit
  | .ok (.rt b) => .ok b
  | .ok (.nx _) => .ok ()
  | .ex x => .ex x
  | _ => .no
@[simp] theorem fin_rt {b : β} : (R.ok (.rt b) : R (Ctl σ τ β)).fin = .ok b := rfl
@[simp] theorem fin_ex {x : Exn} : (R.ex x : R (Ctl σ τ β)).fin = .ex x := rfl
@[simp] theorem finU_rt {b : Unit} : (R.ok (.rt b) : R (Ctl σ τ Unit)).finU = .ok () := rfl
@[simp] theorem finU_nx {s : σ} : (R.ok (.nx s) : R (Ctl σ τ Unit)).finU = .ok () := rfl
@[simp] theorem finU_ex {x : Exn} : (R.ex x : R (Ctl σ τ Unit)).finU = .ex x := rfl
theorem bind_fin {m : R α} {f : α → R (Ctl σ τ β)} : (m.bind f).fin = m.bind fun a => (f a).fin := by cases m <;> rfl
theorem bind2_fin {m : R (α × γ)} {f : α → γ → R (Ctl σ τ β)} : (m.bind2 f).fin = m.bind2 fun a s => (f a s).fin := by cases m <;> rfl
theorem bind_finU {m : R α} {f : α → R (Ctl σ τ Unit)} : (m.bind f).finU = m.bind fun a => (f a).finU := by cases m <;> rfl
/-- a for -/
def forR : List α → σ → (σ → α → R (Ctl σ σ β)) → R (Ctl σ τ β)
  | [], s, _ => .ok (.nx s)
  | a :: r, s, f => match f s a with
    | .ok (.nx s') => forR r s' f
    | .ok (.ct s') => forR r s' f
    | .ok (.bk s') => .ok (.nx s')
    | .ok (.rt b) => .ok (.rt b)
    | .ex x => .ex x
    | .no => .no
/-- a while, at most n turns -/
def whileR : Nat → σ → (σ → R Bool) → (σ → R (Ctl σ σ β)) → R (Ctl σ τ β)
  | 0, _, _, _ => .no
  | n + 1, s, c, f => match c s with
    | .ok true => (match f s with
      | .ok (.nx s') => whileR n s' c f
      | .ok (.ct s') => whileR n s' c f
      | .ok (.bk s') => .ok (.nx s')
      | .ok (.rt b) => .ok (.rt b)
      | .ex x => .ex x
      | .no => .no)
    | .ok false => .ok (.nx s)
    | .ex x => .ex x
    | .no => .no
/-- [f a for a in xs if t a] -/
def lcG : List α → (α → R Bool) → (α → R β) → R (List β)
  | [], _, _ => .ok []
  | a :: r, t, f => (t a).bind fun b => if b = true then (f a).bind fun y => (lcG r t f).bind fun l => .ok (y :: l) else lcG r t f
def lcR (xs : List α) (t : α → R Bool) (f : α → R β) : R (List β) := need (xs.length ≤ 40000) (lcG xs t f)
/-- .. the state s goes along -/
def lcGS : List α → σ → (α → σ → R (Bool × σ)) → (α → σ → R (β × σ)) → R (List β × σ)
  | [], s, _, _ => .ok ([], s)
  | a :: r, s, t, f => (t a s).bind2 fun b s1 => if b = true then (f a s1).bind2 fun y s2 => (lcGS r s2 t f).bind2 fun l s3 => .ok (y :: l, s3) else lcGS r s1 t f
def lcS (xs : List α) (s : σ) (t : α → σ → R (Bool × σ)) (f : α → σ → R (β × σ)) : R (List β × σ) := need (xs.length ≤ 40000) (lcGS xs s t f)
theorem lcG_ok {p : α → Bool} {v : α → β} : ∀ xs : List α, lcG xs (fun a => .ok (p a)) (fun a => .ok (v a)) = .ok ((xs.filter p).map v)
  | [] => rfl
  | a :: r => by
    unfold lcG
    rw [lcG_ok r]
    cases h : p a <;> simp [h]
theorem lcR_ok {p : α → Bool} {v : α → β} {xs : List α} (h : xs.length ≤ 40000) : lcR xs (fun a => .ok (p a)) (fun a => .ok (v a)) = .ok ((xs.filter p).map v) := by
  rw [lcR, need_pos h, lcG_ok]
theorem lcR_map {v : α → β} {xs : List α} (h : xs.length ≤ 40000) : lcR xs (fun _ => .ok true) (fun a => .ok (v a)) = .ok (xs.map v) := by
  rw [lcR_ok (p := fun _ => true) h, List.filter_eq_self.mpr (fun _ _ => rfl)]
/-- .. where the parts are known on the list alone -/
theorem lcG_on {p : α → Bool} {v : α → β} {t : α → R Bool} {f : α → R β} : ∀ {xs : List α}, (∀ a ∈ xs, t a = .ok (p a)) → (∀ a ∈ xs, p a = true → f a = .ok (v a)) → lcG xs t f = .ok ((xs.filter p).map v)
  | [], _, _ => rfl
  | a :: r, ht, hf => by
    unfold lcG
    rw [lcG_on (fun b hb => ht b (List.mem_cons_of_mem _ hb)) (fun b hb => hf b (List.mem_cons_of_mem _ hb)), ht a List.mem_cons_self]
    cases h : p a
    · simp [h]
    · simp [h, hf a List.mem_cons_self h]
theorem lcR_on {p : α → Bool} {v : α → β} {t : α → R Bool} {f : α → R β} {xs : List α} (h : xs.length ≤ 40000) (ht : ∀ a ∈ xs, t a = .ok (p a)) (hf : ∀ a ∈ xs, p a = true → f a = .ok (v a)) : lcR xs t f = .ok ((xs.filter p).map v) := by
  rw [lcR, need_pos h, lcG_on ht hf]
theorem lcR_mapOn {v : α → β} {f : α → R β} {xs : List α} (h : xs.length ≤ 40000) (hf : ∀ a ∈ xs, f a = .ok (v a)) : lcR xs (fun _ => .ok true) f = .ok (xs.map v) := by
  rw [lcR_on (p := fun _ => true) h (fun _ _ => rfl) fun a ha _ => hf a ha, List.filter_eq_self.mpr (fun _ _ => rfl)]
/-- a for whose turns all go on -/
theorem forR_fold {f : σ → α → R (Ctl σ σ β)} (g : σ → α → σ) (I : σ → List α → Prop) : ∀ (xs : List α) (s : σ), I s xs → (∀ s a r, I s (a :: r) → f s a = .ok (.nx (g s a)) ∧ I (g s a) r) → (forR xs s f : R (Ctl σ τ β)) = .ok (.nx (xs.foldl g s))
  | [], s, _, _ => rfl
  | a :: r, s, h, hs => by
    unfold forR
    obtain ⟨e, h1⟩ := hs s a r h
    rw [e]
    exact forR_fold g I r (g s a) h1 hs
theorem forR_nil {f : σ → α → R (Ctl σ σ β)} {s : σ} : (forR [] s f : R (Ctl σ τ β)) = .ok (.nx s) := rfl
theorem forR_nx {f : σ → α → R (Ctl σ σ β)} {s s' : σ} {a : α} {r : List α} (h : f s a = .ok (.nx s')) : (forR (a :: r) s f : R (Ctl σ τ β)) = forR r s' f := by
  rw [forR, h]
theorem forR_ct {f : σ → α → R (Ctl σ σ β)} {s s' : σ} {a : α} {r : List α} (h : f s a = .ok (.ct s')) : (forR (a :: r) s f : R (Ctl σ τ β)) = forR r s' f := by
  rw [forR, h]
theorem forR_bk {f : σ → α → R (Ctl σ σ β)} {s s' : σ} {a : α} {r : List α} (h : f s a = .ok (.bk s')) : (forR (a :: r) s f : R (Ctl σ τ β)) = .ok (.nx s') := by
  rw [forR, h]
theorem forR_rt {f : σ → α → R (Ctl σ σ β)} {s : σ} {a : α} {b : β} {r : List α} (h : f s a = .ok (.rt b)) : (forR (a :: r) s f : R (Ctl σ τ β)) = .ok (.rt b) := by
  rw [forR, h]
end R
/-! ### encodings -/
abbrev eI : Int → Dt := Dt.int
abbrev eB : Bool → Dt := Dt.bl
abbrev eS : Str → Dt := Dt.str
abbrev eU : Unit → Dt := fun _ => .non
abbrev eD : Dt → Dt := fun d => d
section
variable {α β γ δ : Type}
abbrev eL (e : α → Dt) : List α → Dt := fun xs => .lst (xs.map e)
abbrev eT (e : α → Dt) : List α → Dt := fun xs => .tup (xs.map e)
abbrev eP2 (e1 : α → Dt) (e2 : β → Dt) : α × β → Dt := fun p => .tup [e1 p.1, e2 p.2]
abbrev eP3 (e1 : α → Dt) (e2 : β → Dt) (e3 : γ → Dt) : α × β × γ → Dt := fun p => .tup [e1 p.1, e2 p.2.1, e3 p.2.2]
abbrev eP4 (e1 : α → Dt) (e2 : β → Dt) (e3 : γ → Dt) (e4 : δ → Dt) : α × β × γ × δ → Dt := fun p => .tup [e1 p.1, e2 p.2.1, e3 p.2.2.1, e4 p.2.2.2]
def eO (e : α → Dt) : Option α → Dt
  | none => .non
  | some a => e a
abbrev oL (e : α → Dt) : List α → Ow := fun xs => .lst (xs.map e)
end
/-! ### judgements -/
section
variable (P : Program) (w : World) (K : PySem.W.Frag) (W : WX) (eX : En)
def ErA (ta : TA) (env : En) (x : Xn) (env' : En) : Prop := ∀ F0 H0 F H σ, Sm P w K F0 H0 F H σ env → ∀ Q : List V → Hp → Prop, (∀ od F' H', Ex F F' → Sm P w K F0 H0 F' H' σ env' → XnOk K F' x od → W (.ref x.C) od σ H') → ta σ H Q
def ErT (tt : TT) (env : En) (x : Xn) (env' : En) : Prop := ∀ F0 H0 F H σ, Sm P w K F0 H0 F H σ env → ∀ Q : Bool → Hp → Prop, (∀ od F' H', Ex F F' → Sm P w K F0 H0 F' H' σ env' → XnOk K F' x od → W (.ref x.C) od σ H') → tt σ H Q
def ErI (wi : TI) (env : En) (x : Xn) (env' : En) : Prop := ∀ F0 H0 F H σ, Sm P w K F0 H0 F H σ env → ∀ Q : It → Hp → Prop, (∀ od F' H', Ex F F' → Sm P w K F0 H0 F' H' σ env' → XnOk K F' x od → W (.ref x.C) od σ H') → wi σ H Q
variable {α σ : Type}
/-- pure -/
def Xp (te : TE) (env : En) (m : R α) (d : α → Dt) : Prop := match m with
  | .ok a => Ep P w K te env (d a)
  | .ex x => Er P w K W te env (x.xn K) eX
  | .no => True
def Xo (te : TE) (env : En) (m : R α) (u : α → Ow) : Prop := match m with
  | .ok a => EpO P w K te env (u a)
  | .ex x => Er P w K W te env (x.xn K) eX
  | .no => True
def Xa (ta : TA) (env : En) (m : R α) (d : α → List Dt) : Prop := match m with
  | .ok a => EpA P w K ta env (d a)
  | .ex x => ErA P w K W ta env (x.xn K) eX
  | .no => True
def Xt (tt : TT) (env : En) (m : R Bool) : Prop := match m with
  | .ok b => Tp P w K tt env b
  | .ex x => ErT P w K W tt env (x.xn K) eX
  | .no => True
def Xi (wi : TI) (env : En) (m : R (List α)) (d : α → Dt) : Prop := match m with
  | .ok xs => Ip P w K wi env (xs.map d)
  | .ex x => ErI P w K W wi env (x.xn K) eX
  | .no => True
/-- .. and what is one's own may change -/
def Ye (te : TE) (env : En) (m : R (α × σ)) (d : α → Dt) (en : σ → En) : Prop := match m with
  | .ok p => Ee P w K te env (d p.1) (en p.2)
  | .ex x => Er P w K W te env (x.xn K) eX
  | .no => True
def Yo (te : TE) (env : En) (m : R (α × σ)) (u : α → Ow) (en : σ → En) : Prop := match m with
  | .ok p => EnO P w K te env (u p.1) (en p.2)
  | .ex x => Er P w K W te env (x.xn K) eX
  | .no => True
def Ya (ta : TA) (env : En) (m : R (α × σ)) (d : α → List Dt) (en : σ → En) : Prop := match m with
  | .ok p => EeA P w K ta env (d p.1) (en p.2)
  | .ex x => ErA P w K W ta env (x.xn K) eX
  | .no => True
def Yt (tt : TT) (env : En) (m : R (Bool × σ)) (en : σ → En) : Prop := match m with
  | .ok p => Te P w K tt env p.1 (en p.2)
  | .ex x => ErT P w K W tt env (x.xn K) eX
  | .no => True
def IeW (wi : TI) (env : En) (ds : List Dt) (env' : En) : Prop := Sh env env' ∧ ∀ F0 H0 F H σ, Sm P w K F0 H0 F H σ env → ∀ R : It → Hp → Prop, (∀ J F' H', Wo σ env F H F' H' → Sm P w K F0 H0 F' H' σ env' → Pw.Wl K F' J ds → R J H') → wi σ H R
def Yi (wi : TI) (env : En) (m : R (List α × σ)) (d : α → Dt) (en : σ → En) : Prop := match m with
  | .ok p => IeW P w K wi env (p.1.map d) (en p.2)
  | .ex x => ErI P w K W wi env (x.xn K) eX
  | .no => True
/-- a block: eN its end, eL the loop around it, out what it gives -/
def Sx {τ β : Type} (eL : τ → En) (out : β → Out) (s : TS) (env : En) (m : R (Ctl σ τ β)) (eN : σ → En) : Prop := match m with
  | .ok (.nx a) => Se P w K s env (.nx (eN a))
  | .ok (.ct t) => Se P w K s env (.ct (eL t))
  | .ok (.bk t) => Se P w K s env (.bk (eL t))
  | .ok (.rt b) => Se P w K s env (out b)
  | .ex x => Se P w K s env (.rz W (x.xn K) eX)
  | .no => True
/-- operations -/
def R2m {γ : Type} (r : R2) (d e : Dt) (m : R γ) (z : γ → Dt) : Prop := match m with
  | .ok c => R2d K r d e (z c)
  | .ex _ => False
  | .no => True
def RLm {γ : Type} (r : List V → Hp → VK → Prop) (ds : List Dt) (m : R γ) (z : γ → Dt) : Prop := match m with
  | .ok c => RLd K r ds (z c)
  | .ex _ => False
  | .no => True
def RLom {γ : Type} (r : List V → Hp → VK → Prop) (ds : List Dt) (m : R γ) (z : γ → Ow) : Prop := match m with
  | .ok c => RLo P w K r ds (z c)
  | .ex _ => False
  | .no => True
end
section
variable {P : Program} {w : World} {K : PySem.W.Frag} {W : WX} {eX : En} {α β γ δ σ σ' τ ρ : Type} {env env1 env2 : En} {ta tb te tc : TE} {tt tu : TT} {tA tr : TA} {wi : TI} {r : R2}
theorem IeW.ie {ds : List Dt} (h : IeW P w K wi env ds env1) : Ie P w K wi env ds env1 := fun F0 H0 F H σ S R q => h.2 F0 H0 F H σ S R fun J F' H' k S' W => q J F' H' k.f S' W
theorem iew_p {ds : List Dt} (h : Ip P w K wi env ds) : IeW P w K wi env ds env := ⟨Sh.refl, fun F0 H0 F H σ S R q => h F0 H0 F H σ S R fun J F' H' k W => q J F' H' (.of k) (S.wk k) W⟩
/-! exceptions go through -/
theorem er_1 {f : TE → TE} (hf : ∀ te σ H Q, ∃ Q', te σ H Q' → f te σ H Q) {x : Xn} (h : Er P w K W ta env x eX) : Er P w K W (f ta) env x eX := fun F0 H0 F H σ S Q q => by
  obtain ⟨Q', hq⟩ := hf ta σ H Q
  exact hq (h F0 H0 F H σ S Q' q)
theorem er_op1 {x : Xn} (h : Er P w K W ta env x eX) : Er P w K W (tOp r ta tb) env x eX := fun F0 H0 F H σ S Q q => h F0 H0 F H σ S _ q
theorem er_op2 {x : Xn} {d : Dt} (ha : Ep P w K ta env d) (h : Er P w K W tb env x eX) : Er P w K W (tOp r ta tb) env x eX := fun F0 H0 F H σ S Q q => ha F0 H0 F H σ S _ fun v F1 H1 k _ => h F0 H0 F1 H1 σ (S.wk k) _ fun od F2 H2 e => q od F2 H2 (k.f.trans e)
theorem er_op2e {x : Xn} {d : Dt} (ha : Ee P w K ta env d env1) (h : Er P w K W tb env1 x eX) : Er P w K W (tOp r ta tb) env x eX := fun F0 H0 F H σ S Q q => ha.2 F0 H0 F H σ S _ fun v F1 H1 k S1 _ => h F0 H0 F1 H1 σ S1 _ fun od F2 H2 e => q od F2 H2 (k.f.trans e)
theorem er_cb {rr : List V → Hp → VK → Prop} {x : Xn} (h : ErA P w K W tA env x eX) : Er P w K W (tCB rr tA) env x eX := fun F0 H0 F H σ S Q q => h F0 H0 F H σ S _ q
theorem er_tup {x : Xn} (h : ErA P w K W tA env x eX) : Er P w K W (tTup tA) env x eX := fun F0 H0 F H σ S Q q => h F0 H0 F H σ S _ q
theorem er_lst {x : Xn} (h : ErA P w K W tA env x eX) : Er P w K W (tLst tA) env x eX := fun F0 H0 F H σ S Q q => h F0 H0 F H σ S _ q
theorem er_call {sp : Sp} {dvs : List V} {E : XK} {x : Xn} (h : ErA P w K W tA env x eX) : Er P w K W (tCall sp dvs E tA) env x eX := fun F0 H0 F H σ S Q q => h F0 H0 F H σ S _ q
theorem er_callSA {sp : Sp} {E : L2.St → XK} {x : Xn} (h : ErA P w K W tA env x eX) : Er P w K W (tCallS sp E tA) env x eX := fun F0 H0 F H σ S Q q => h F0 H0 F H σ S _ q
theorem era_1 {x : Xn} (h : Er P w K W te env x eX) : ErA P w K W (tCons te tr) env x eX := fun F0 H0 F H σ S Q q => h F0 H0 F H σ S _ q
theorem era_2 {x : Xn} {d : Dt} (ha : Ep P w K te env d) (h : ErA P w K W tr env x eX) : ErA P w K W (tCons te tr) env x eX := fun F0 H0 F H σ S Q q => ha F0 H0 F H σ S _ fun v F1 H1 k _ => h F0 H0 F1 H1 σ (S.wk k) _ fun od F2 H2 e => q od F2 H2 (k.f.trans e)
theorem era_2e {x : Xn} {d : Dt} (ha : Ee P w K te env d env1) (h : ErA P w K W tr env1 x eX) : ErA P w K W (tCons te tr) env x eX := fun F0 H0 F H σ S Q q => ha.2 F0 H0 F H σ S _ fun v F1 H1 k S1 _ => h F0 H0 F1 H1 σ S1 _ fun od F2 H2 e => q od F2 H2 (k.f.trans e)
theorem ert_test {x : Xn} (h : Er P w K W te env x eX) : ErT P w K W (tTest te) env x eX := fun F0 H0 F H σ S Q q => h F0 H0 F H σ S _ q
theorem ert_B {x : Xn} (h : Er P w K W te env x eX) : ErT P w K W (tB te) env x eX := fun F0 H0 F H σ S Q q => h F0 H0 F H σ S _ q
theorem ert_not {x : Xn} (h : ErT P w K W tt env x eX) : ErT P w K W (tNot tt) env x eX := fun F0 H0 F H σ S Q q => h F0 H0 F H σ S _ q
theorem ert_and1 {x : Xn} (h : ErT P w K W tt env x eX) : ErT P w K W (tAnd tt tu) env x eX := fun F0 H0 F H σ S Q q => h F0 H0 F H σ S _ q
theorem ert_or1 {x : Xn} (h : ErT P w K W tt env x eX) : ErT P w K W (tOr tt tu) env x eX := fun F0 H0 F H σ S Q q => h F0 H0 F H σ S _ q
theorem ert_and2 {x : Xn} (ha : Tp P w K tt env true) (h : ErT P w K W tu env x eX) : ErT P w K W (tAnd tt tu) env x eX := fun F0 H0 F H σ S Q q => ha F0 H0 F H σ S _ fun F1 H1 k => by
  show tu σ H1 Q
  exact h F0 H0 F1 H1 σ (S.wk k) _ fun od F2 H2 e => q od F2 H2 (k.f.trans e)
theorem ert_or2 {x : Xn} (ha : Tp P w K tt env false) (h : ErT P w K W tu env x eX) : ErT P w K W (tOr tt tu) env x eX := fun F0 H0 F H σ S Q q => ha F0 H0 F H σ S _ fun F1 H1 k => by
  show tu σ H1 Q
  exact h F0 H0 F1 H1 σ (S.wk k) _ fun od F2 H2 e => q od F2 H2 (k.f.trans e)
/-! pure expressions -/
section
variable {da : α → Dt} {db : β → Dt} {dz : γ → Dt}
theorem xp_v {v : α} (h : Ep P w K te env (da v)) : Xp P w K W eX te env (.ok v) da := h
theorem xp_is {m m' : R α} (h : Xp P w K W eX te env m da) (e : m = m') : Xp P w K W eX te env m' da := e ▸ h
theorem xp_opVV {d e : Dt} {m : R γ} (ha : Ep P w K ta env d) (hb : Ep P w K tb env e) (hr : R2m K r d e m dz) : Xp P w K W eX (tOp r ta tb) env m dz := by
  cases m with
  | ok c => exact ep_op ha hb hr
  | ex x => exact False.elim hr
  | no => trivial
theorem xp_opMV {e : Dt} {ma : R α} {m : α → R γ} (ha : Xp P w K W eX ta env ma da) (hb : Ep P w K tb env e) (hr : ∀ a, R2m K r (da a) e (m a) dz) : Xp P w K W eX (tOp r ta tb) env (ma.bind m) dz := by
  cases ma with
  | ok a => exact xp_opVV ha hb (hr a)
  | ex x => exact er_op1 ha
  | no => trivial
theorem xp_opVM {d : Dt} {mb : R β} {m : β → R γ} (ha : Ep P w K ta env d) (hb : Xp P w K W eX tb env mb db) (hr : ∀ b, R2m K r d (db b) (m b) dz) : Xp P w K W eX (tOp r ta tb) env (mb.bind m) dz := by
  cases mb with
  | ok b => exact xp_opVV ha hb (hr b)
  | ex x => exact er_op2 ha hb
  | no => trivial
theorem xp_opMM {ma : R α} {mb : R β} {m : α → β → R γ} (ha : Xp P w K W eX ta env ma da) (hb : Xp P w K W eX tb env mb db) (hr : ∀ a b, R2m K r (da a) (db b) (m a b) dz) : Xp P w K W eX (tOp r ta tb) env (ma.bind fun a => mb.bind fun b => m a b) dz := by
  cases ma with
  | ok a => exact xp_opVM (m := fun b => m a b) ha hb (hr a)
  | ex x => exact er_op1 ha
  | no => trivial
/-! arguments -/
theorem xa_v {ds : α → List Dt} {v : α} (h : EpA P w K tA env (ds v)) : Xa P w K W eX tA env (.ok v) ds := h
theorem xa_nil : Xa P w K W eX tNil env (.ok ()) (fun _ => []) := ap_nil
theorem xa_consM {ds : β → List Dt} {ma : R α} {mr : R β} (ha : Xp P w K W eX te env ma da) (hr : Xa P w K W eX tr env mr ds) : Xa P w K W eX (tCons te tr) env (ma.bind fun a => mr.bind fun r => .ok (a, r)) (fun p => da p.1 :: ds p.2) := by
  cases ma with
  | ok a =>
    cases mr with
    | ok r => exact ap_cons ha hr
    | ex x => exact era_2 ha hr
    | no => trivial
  | ex x => exact era_1 ha
  | no => trivial
theorem xa_consV {ds : β → List Dt} {d : Dt} {mr : R β} (ha : Ep P w K te env d) (hr : Xa P w K W eX tr env mr ds) : Xa P w K W eX (tCons te tr) env mr (fun p => d :: ds p) := by
  cases mr with
  | ok r => exact ap_cons ha hr
  | ex x => exact era_2 ha hr
  | no => trivial
/-! built-in functions -/
theorem xp_cbV {rr : List V → Hp → VK → Prop} {ds : List Dt} {m : R γ} (h : EpA P w K tA env ds) (hr : RLm K rr ds m dz) : Xp P w K W eX (tCB rr tA) env m dz := by
  cases m with
  | ok c => exact ep_cb h hr
  | ex x => exact False.elim hr
  | no => trivial
theorem xp_cbM {rr : List V → Hp → VK → Prop} {ds : α → List Dt} {ma : R α} {m : α → R γ} (h : Xa P w K W eX tA env ma ds) (hr : ∀ a, RLm K rr (ds a) (m a) dz) : Xp P w K W eX (tCB rr tA) env (ma.bind m) dz := by
  cases ma with
  | ok a => exact xp_cbV h (hr a)
  | ex x => exact er_cb h
  | no => trivial
theorem xo_cbM {rr : List V → Hp → VK → Prop} {ds : α → List Dt} {u : γ → Ow} {ma : R α} {m : α → R γ} (h : Xa P w K W eX tA env ma ds) (hr : ∀ a, RLom P w K rr (ds a) (m a) u) : Xo P w K W eX (tCB rr tA) env (ma.bind m) u := by
  cases ma with
  | ok a =>
    have hr := hr a
    show Xo P w K W eX (tCB rr tA) env (m a) u
    cases e : m a with
    | ok c => rw [e] at hr; exact po_cb h hr
    | ex x => rw [e] at hr; exact False.elim hr
    | no => trivial
  | ex x => exact er_cb h
  | no => trivial
/-! displays -/
theorem xp_tup {ds : α → List Dt} {ma : R α} {f : α → γ} (h : Xa P w K W eX tA env ma ds) (hd : ∀ a, Dt.tup (ds a) = dz (f a)) (hl : ∀ a, (ds a).length ≤ 100000 := by exact fun _ => Nat.le_of_ble_eq_true rfl) : Xp P w K W eX (tTup tA) env (ma.bind fun a => .ok (f a)) dz := by
  cases ma with
  | ok a =>
    show Ep P w K (tTup tA) env (dz (f a))
    rw [← hd a]
    exact ep_tup h (hl a)
  | ex x => exact er_tup h
  | no => trivial
theorem xo_lst {ds : α → List Dt} {ma : R α} {f : α → γ} {u : γ → Ow} (h : Xa P w K W eX tA env ma ds) (hd : ∀ a, Ow.lst (ds a) = u (f a)) (hl : ∀ a, (ds a).length ≤ 100000 := by exact fun _ => Nat.le_of_ble_eq_true rfl) : Xo P w K W eX (tLst tA) env (ma.bind fun a => .ok (f a)) u := by
  cases ma with
  | ok a =>
    show EpO P w K (tLst tA) env (u (f a))
    rw [← hd a]
    exact po_n (np_lst h (hl a))
  | ex x => exact er_lst h
  | no => trivial
/-- a new thing as data -/
theorem xp_o {m : R α} {u : α → Ow} (h : Xo P w K W eX te env m u) (hd : ∀ a, (u a).dt = some (da a)) : Xp P w K W eX te env m da := by
  cases m with
  | ok a => exact po_dt h (hd a)
  | ex x => exact h
  | no => trivial
theorem xo_v {u : α → Ow} {v : α} (h : EpO P w K te env (u v)) : Xo P w K W eX te env (.ok v) u := h
/-! calls -/
/-- the promise of a def with a mirror -/
def Got (K : PySem.W.Frag) (m : R β) (er : β → Rs) (r : Rs) : Prop := match m with
  | .ok b => r = er b
  | .ex x => r = .x (x.xn K)
  | .no => False
def RF (K : PySem.W.Frag) (ea : α → List Dt) (m : α → R β) (er : β → Rs) (ds : List Dt) (r : Rs) : Prop := ∃ a, ds = ea a ∧ Got K (m a) er r
theorem xp_call {E : XK} {ea : α → List Dt} {m : α → R γ} {er : γ → Rs} {ma : R α} (h : Xa P w K W eX tA env ma ea) (hd : ∀ c, er c = .d (dz c)) : Xp P w K W eX (tCall (spR P w K (RF K ea m er)) [] E tA) env (ma.bind fun a => (m a).nox) dz := by
  cases ma with
  | ok a =>
    show Xp P w K W eX _ env (m a).nox dz
    cases e : m a with
    | ok c => exact ep_call h ⟨a, rfl, by rw [e]; exact (hd c).symm⟩
    | ex x => trivial
    | no => trivial
  | ex x => exact er_call h
  | no => trivial
theorem xp_callX {ea : α → List Dt} {m : α → R γ} {er : γ → Rs} {ma : R α} (h : Xa P w K W eX tA env ma ea) (hd : ∀ c, er c = .d (dz c)) (hl : Le env eX) : Xp P w K W eX (tCallS (spR P w K (RF K ea m er)) (WE W) tA) env (ma.bind m) dz := by
  cases ma with
  | ok a =>
    show Xp P w K W eX _ env (m a) dz
    cases e : m a with
    | ok c => exact ep_callS h ⟨a, rfl, by rw [e]; exact (hd c).symm⟩
    | ex x => exact fun F0 H0 F H σ S Q q => er_callS h ⟨a, rfl, by rw [e]; rfl⟩ F0 H0 F H σ S Q fun od F' H' e S' => q od F' H' e (S'.le hl)
    | no => trivial
  | ex x => exact er_callSA h
  | no => trivial
theorem xo_call {E : XK} {ea : α → List Dt} {m : α → R γ} {er : γ → Rs} {u : γ → Ow} {ma : R α} (h : Xa P w K W eX tA env ma ea) (hd : ∀ c, er c = .o (u c)) : Xo P w K W eX (tCall (spR P w K (RF K ea m er)) [] E tA) env (ma.bind fun a => (m a).nox) u := by
  cases ma with
  | ok a =>
    show Xo P w K W eX _ env (m a).nox u
    cases e : m a with
    | ok c => exact po_call h ⟨a, rfl, by rw [e]; exact (hd c).symm⟩
    | ex x => trivial
    | no => trivial
  | ex x => exact er_call h
  | no => trivial
theorem xo_callX {ea : α → List Dt} {m : α → R γ} {er : γ → Rs} {u : γ → Ow} {ma : R α} (h : Xa P w K W eX tA env ma ea) (hd : ∀ c, er c = .o (u c)) (hl : Le env eX) : Xo P w K W eX (tCallS (spR P w K (RF K ea m er)) (WE W) tA) env (ma.bind m) u := by
  cases ma with
  | ok a =>
    show Xo P w K W eX _ env (m a) u
    cases e : m a with
    | ok c => exact po_callS h ⟨a, rfl, by rw [e]; exact (hd c).symm⟩
    | ex x => exact fun F0 H0 F H σ S Q q => er_callS h ⟨a, rfl, by rw [e]; rfl⟩ F0 H0 F H σ S Q fun od F' H' e S' => q od F' H' e (S'.le hl)
    | no => trivial
  | ex x => exact er_callSA h
  | no => trivial
end
/-! tests -/
theorem xt_v {b : Bool} (h : Tp P w K tt env b) : Xt P w K W eX tt env (.ok b) := h
theorem xt_test {m : R Bool} (h : Xp P w K W eX te env m eB) : Xt P w K W eX (tTest te) env m := by
  cases m with
  | ok b => exact tp_test h
  | ex x => exact ert_test h
  | no => trivial
theorem xt_B {m : R Bool} (h : Xp P w K W eX te env m eB) : Xt P w K W eX (tB te) env m := by
  cases m with
  | ok b => exact tp_B h
  | ex x => exact ert_B h
  | no => trivial
theorem xt_not {m : R Bool} (h : Xt P w K W eX tt env m) : Xt P w K W eX (tNot tt) env (m.bind fun b => .ok (!b)) := by
  cases m with
  | ok b => exact tp_not h
  | ex x => exact ert_not h
  | no => trivial
theorem xt_and {m n : R Bool} (h : Xt P w K W eX tt env m) (h2 : Xt P w K W eX tu env n) : Xt P w K W eX (tAnd tt tu) env (m.bind fun b => if b = true then n else .ok false) := by
  cases m with
  | ok b =>
    cases b with
    | true =>
      cases n with
      | ok c => exact tp_and (a := true) h fun _ => h2
      | ex x => exact ert_and2 h h2
      | no => trivial
    | false => exact tp_and (a := false) (b := true) h (fun z => nomatch z)
  | ex x => exact ert_and1 h
  | no => trivial
theorem xt_or {m n : R Bool} (h : Xt P w K W eX tt env m) (h2 : Xt P w K W eX tu env n) : Xt P w K W eX (tOr tt tu) env (m.bind fun b => if b = true then .ok true else n) := by
  cases m with
  | ok b =>
    cases b with
    | false =>
      cases n with
      | ok c => exact tp_or (a := false) h fun _ => h2
      | ex x => exact ert_or2 h h2
      | no => trivial
    | true => exact tp_or (a := true) (b := true) h (fun z => nomatch z)
  | ex x => exact ert_or1 h
  | no => trivial
end
end Mw

set_option maxHeartbeats 1000000
/-! ### statements -/
namespace Mw
open PySem PySem.Spec PyProof.Rows L2 Qw
open Evl hiding ea_cons
open Pw (Dt Rp RpL Wk R2d R1d RLd RLn Kq KqL none_sub spX2)
section
variable {P : Program} {w : World} {K : PySem.W.Frag} {W : WX} {eX : En} {α β γ δ σ σ' τ ρ : Type} {env env1 env2 : En} {ta tb te tc : TE} {tt tu : TT} {tA tr : TA} {wi : TI} {r : R2} {g : TG}
variable {eL : τ → En} {out : ρ → Out} {s s1 s2 s3 : TS} {eN : σ → En} {d : α → Dt} {u : α → Ow}
theorem se_lez' {x : Xn} {e1 e2 : En} (h : Se P w K s env (.rz W x e1)) (l : Le e1 e2) : Se P w K s env (.rz W x e2) := fun F0 H0 F H σ D S p => h F0 H0 F H σ D S fun od F1 H1 σ1 e1 S1 => p od F1 H1 σ1 e1 (S1.le l)
theorem sx_end {v : σ} (h : Le env (eN v)) : Sx P w K W eX eL out tNext env (.ok (.nx v)) eN := se_le se_next h
theorem sx_ct {v : τ} (h : Le env (eL v)) : Sx P w K W eX eL out (tSeq tCont s2) env (.ok (.ct v)) eN := fun F0 H0 F H σ D S p => p F H σ (Ex.refl F) (S.le h)
theorem sx_bk {v : τ} (h : Le env (eL v)) : Sx P w K W eX eL out (tSeq tBreak s2) env (.ok (.bk v)) eN := fun F0 H0 F H σ D S p => p F H σ (Ex.refl F) (S.le h)
theorem sx_last {m : R (Ctl σ τ ρ)} (h : Sx P w K W eX eL out (tSeq s tNext) env m eN) : Sx P w K W eX eL out s env m eN := h
theorem sx_asc {m : R (Ctl σ τ ρ)} (h : Sx P w K W eX eL out (tSeq s1 (tSeq s2 s3)) env m eN) : Sx P w K W eX eL out (tSeq (tSeq s1 s2) s3) env m eN := h
theorem sx_skip {m : R (Ctl σ τ ρ)} (h : Sx P w K W eX eL out s env m eN) : Sx P w K W eX eL out (tSeq tNext s) env m eN := h
theorem sx_is {m m' : R (Ctl σ τ ρ)} (h : Sx P w K W eX eL out s env m eN) (e : m = m') : Sx P w K W eX eL out s env m' eN := e ▸ h
theorem sx_seqE {m : R (Ctl σ τ ρ)} (h1 : Se P w K s1 env (.nx env1)) (h2 : Sx P w K W eX eL out s2 env1 m eN) : Sx P w K W eX eL out (tSeq s1 s2) env m eN := by
  cases m with
  | ok c => cases c <;> exact se_seq h1 h2
  | ex x => exact se_seq h1 h2
  | no => trivial
theorem sx_pre {m : R (Ctl σ τ ρ)} (l : Le env env1) (h2 : Sx P w K W eX eL out s env1 m eN) : Sx P w K W eX eL out s env m eN := by
  cases m with
  | ok c => cases c <;> exact se_pre l h2
  | ex x => exact se_pre l h2
  | no => trivial
theorem sx_freeze {m : R (Ctl σ τ ρ)} (i : Nat) {t : Option Addr} {v : Ow} {dd : Dt} (hi : env[i]? = some (.ow t v)) (hd : v.dt = some dd) (h2 : Sx P w K W eX eL out s (env.set i (.d dd)) m eN) : Sx P w K W eX eL out s env m eN := by
  cases m with
  | ok c => cases c <;> exact se_freeze hi hd h2
  | ex x => exact se_freeze hi hd h2
  | no => trivial
theorem sx_asg {i : Nat} {m : R α} {k : α → R (Ctl σ τ ρ)} (h : Xp P w K W eX te env m d) (hk : ∀ a, Sx P w K W eX eL out s2 (env.set i (.d (d a))) (k a) eN) : Sx P w K W eX eL out (tSeq (tAsg te (gName i)) s2) env (m.bind k) eN := by
  cases m with
  | ok a => exact sx_seqE (se_asg (ee_p h)) (hk a)
  | ex x => exact se_seqF (se_asgX h)
  | no => trivial
theorem sx_asgG {m : R α} {k : α → R (Ctl σ τ ρ)} {en : α → En} (h : Xp P w K W eX te env m d) (hg : ∀ a, Ge P w K g (d a) env (en a)) (hk : ∀ a, Sx P w K W eX eL out s2 (en a) (k a) eN) : Sx P w K W eX eL out (tSeq (tAsg te g) s2) env (m.bind k) eN := by
  cases m with
  | ok a => exact sx_seqE (se_asgG (ee_p h) (hg a)) (hk a)
  | ex x => exact se_seqF (se_asgX h)
  | no => trivial
theorem se_ownX {x : Xn} (h : Er P w K W te env x eX) : Se P w K (tAsg te g) env (.rz W x eX) := se_asgX h
theorem sx_own {i : Nat} {m : R α} {k : α → R (Ctl σ τ ρ)} (h : Xo P w K W eX te env m u) (hk : ∀ a, Sx P w K W eX eL out s2 (env.set i (.ow none (u a))) (k a) eN) : Sx P w K W eX eL out (tSeq (tAsg te (gName i)) s2) env (m.bind k) eN := by
  cases m with
  | ok a => exact sx_seqE (se_own (eo_p h)) (hk a)
  | ex x => exact se_seqF (se_asgX h)
  | no => trivial
theorem sx_drop {m : R α} {k : α → R (Ctl σ τ ρ)} (h : Xp P w K W eX te env m d) (hk : ∀ a, Sx P w K W eX eL out s2 env (k a) eN) : Sx P w K W eX eL out (tSeq (tDrop te) s2) env (m.bind k) eN := by
  cases m with
  | ok a => exact sx_seqE (se_drop (ee_p h)) (hk a)
  | ex x => exact se_seqF (se_dropX h)
  | no => trivial
theorem sx_ret {d : ρ → Dt} {m : R ρ} (h : Xp P w K W eX te env m d) (ho : ∀ b, out b = .rt (d b)) : Sx P w K W eX eL out (tSeq (tRet te) s2) env (m.bind fun a => .ok (.rt a)) eN := by
  cases m with
  | ok a =>
    show Se P w K _ env (out a)
    rw [ho a]
    exact se_seqF (se_ret (ee_p h))
  | ex x => exact se_seqF (se_retX h)
  | no => trivial
theorem sx_reto {u : ρ → Ow} {m : R ρ} (h : Xo P w K W eX te env m u) (ho : ∀ b, out b = .ro (u b)) : Sx P w K W eX eL out (tSeq (tRet te) s2) env (m.bind fun a => .ok (.rt a)) eN := by
  cases m with
  | ok a =>
    show Se P w K _ env (out a)
    rw [ho a]
    exact se_seqF (se_ro (eo_p h))
  | ex x => exact se_seqF (se_retX h)
  | no => trivial
theorem sx_retV {i : Nat} {t : Option Addr} {v : Ow} {b : ρ} (h : env[i]? = some (.ow t v)) (ho : out b = .ro v) : Sx P w K W eX eL out (tSeq (tRet (tVar i)) s2) env (.ok (.rt b)) eN := by
  show Se P w K _ env (out b)
  rw [ho]
  exact se_seqF (se_roV h)
theorem sx_retN {b : ρ} (ho : out b = .rt .non) : Sx P w K W eX eL out (tSeq tRetN s2) env (.ok (.rt b)) eN := by
  show Se P w K _ env (out b)
  rw [ho]
  exact se_seqF se_retN
theorem sx_raise2 {C f1 f2 : Str} {dd e : Dt} (h : EpA P w K tA env [dd, e]) (l : Le env eX) : Sx P w K W eX eL out (tSeq (fun _ σ H => tMkO (He.ga K C) (spX2 (He.ga K C) f1 f2) [] tA σ H fun cls d H' => W cls d σ H') s2) env (.ex ⟨C, [f2, f1], [e, dd]⟩) eN := se_seqF (se_lez' (se_raise2 h) l)
theorem sx_raise0 {C : Str} (l : Le env eX) : Sx P w K W eX eL out (tSeq (fun _ σ H => (fun (_ : L2.St) (H : Hp) (Q : XK) => Q (.ref (He.ga K C)) none H) σ H fun cls d H' => W cls d σ H') s2) env (.ex ⟨C, [], []⟩) eN := se_seqF (se_lez' se_raise0 l)
theorem sx_if {m : R Bool} {m1 m2 : R (Ctl σ τ ρ)} (h : Xt P w K W eX tt env m) (h1 : Sx P w K W eX eL out (tSeq s1 s3) env m1 eN) (h2 : Sx P w K W eX eL out (tSeq s2 s3) env m2 eN) : Sx P w K W eX eL out (tSeq (tIfS tt s1 s2) s3) env (m.bind fun b => if b = true then m1 else m2) eN := by
  cases m with
  | ok b =>
    have key : ∀ {o : Out}, (b = true → Se P w K (tSeq s1 s3) env o) → (b = false → Se P w K (tSeq s2 s3) env o) → Se P w K (tSeq (tIfS tt s1 s2) s3) env o := fun a1 a2 => se_ifq (te_p h) a1 a2
    cases b with
    | true =>
      show Sx P w K W eX eL out _ env m1 eN
      cases m1 with
      | ok c => cases c <;> exact key (fun _ => h1) (fun z => nomatch z)
      | ex x => exact key (fun _ => h1) (fun z => nomatch z)
      | no => trivial
    | false =>
      show Sx P w K W eX eL out _ env m2 eN
      cases m2 with
      | ok c => cases c <;> exact key (fun z => nomatch z) (fun _ => h2)
      | ex x => exact key (fun z => nomatch z) (fun _ => h2)
      | no => trivial
  | ex x => exact fun F0 H0 F H σ D S p => h F0 H0 F H σ S _ fun od F1 H1 e S1 => p od F1 H1 σ e S1
  | no => trivial
theorem sx_seq {eM : σ' → En} {m1 : R (Ctl σ' τ ρ)} {k : σ' → R (Ctl σ τ ρ)} (hf : ∀ b, (out b).fin = true) (h1 : Sx P w K W eX eL out s1 env m1 eM) (hk : ∀ v, Sx P w K W eX eL out s2 (eM v) (k v) eN) : Sx P w K W eX eL out (tSeq s1 s2) env (m1.bindC k) eN := by
  cases m1 with
  | ok c =>
    cases c with
    | nx v => exact sx_seqE h1 (hk v)
    | ct v => exact se_seqF h1
    | bk v => exact se_seqF h1
    | rt b => exact se_seqF h1 (hf b)
  | ex x => exact se_seqF h1
  | no => trivial
/-- an if without an end in it: its branches join -/
theorem sx_ifj {eM : σ' → En} {m : R Bool} {m1 m2 : R (Ctl σ' τ ρ)} {k : σ' → R (Ctl σ τ ρ)} (hf : ∀ b, (out b).fin = true) (h : Xt P w K W eX tt env m) (h1 : Sx P w K W eX eL out s1 env m1 eM) (h2 : Sx P w K W eX eL out s2 env m2 eM) (hk : ∀ v, Sx P w K W eX eL out s3 (eM v) (k v) eN) : Sx P w K W eX eL out (tSeq (tIfS tt s1 s2) s3) env ((m.bind fun b => if b = true then m1 else m2).bindC k) eN :=
  sx_seq hf (sx_last (sx_if h h1 h2)) hk
/-! loops -/
def stepR (f : σ → α → R (Ctl σ σ ρ)) (v : σ) (a : α) : σ := match f v a with
  | .ok (.nx v') => v'
  | .ok (.ct v') => v'
  | _ => v
theorem stepR_eq {f : σ → α → R (Ctl σ σ ρ)} {v v' : σ} {a : α} (h : f v a = .ok (.nx v') ∨ f v a = .ok (.ct v')) : stepR f v a = v' := by
  unfold stepR
  rcases h with h | h <;> rw [h]
def goesR : R (Ctl σ σ ρ) → Bool
  | .ok (.nx _) => true
  | .ok (.ct _) => true
  | _ => false
theorem forR_runs (f : σ → α → R (Ctl σ σ ρ)) : ∀ (xs : List α) (v : σ),
    ((∀ (i : Nat) a, xs[i]? = some a → goesR (f ((xs.take i).foldl (stepR f) v) a) = true) ∧ (R.forR xs v f : R (Ctl σ τ ρ)) = .ok (.nx (xs.foldl (stepR f) v))) ∨
    ∃ (m : Nat) (a : α), xs[m]? = some a ∧ (∀ (i : Nat) b, i < m → xs[i]? = some b → goesR (f ((xs.take i).foldl (stepR f) v) b) = true) ∧
      ((∃ v', f ((xs.take m).foldl (stepR f) v) a = .ok (.bk v') ∧ (R.forR xs v f : R (Ctl σ τ ρ)) = .ok (.nx v')) ∨ (∃ b, f ((xs.take m).foldl (stepR f) v) a = .ok (.rt b) ∧ (R.forR xs v f : R (Ctl σ τ ρ)) = .ok (.rt b)) ∨
        (∃ x, f ((xs.take m).foldl (stepR f) v) a = .ex x ∧ (R.forR xs v f : R (Ctl σ τ ρ)) = .ex x) ∨ (R.forR xs v f : R (Ctl σ τ ρ)) = .no)
  | [], v => .inl ⟨fun i a h => by simp at h, rfl⟩
  | a :: xs, v => by
    have on : ∀ v', f v a = .ok (.nx v') ∨ f v a = .ok (.ct v') → (R.forR (a :: xs) v f : R (Ctl σ τ ρ)) = R.forR xs v' f ∧ stepR f v a = v' ∧ goesR (f v a) = true := by
      rintro v' (h | h)
      · exact ⟨R.forR_nx h, by rw [stepR, h], by rw [h]; rfl⟩
      · exact ⟨R.forR_ct h, by rw [stepR, h], by rw [h]; rfl⟩
    by_cases hx : ∃ v', f v a = .ok (.nx v') ∨ f v a = .ok (.ct v')
    · obtain ⟨v', h⟩ := hx
      obtain ⟨e1, e2, e3⟩ := on v' h
      have ih := forR_runs f xs v'
      rw [e1]
      rcases ih with ⟨h1, h2⟩ | ⟨m, b, h1, h2, h3⟩
      · refine Or.inl ⟨fun i b hb => ?_, by rw [h2, List.foldl_cons, e2]⟩
        cases i with
        | zero => cases hb; exact e3
        | succ i =>
          rw [List.take_succ_cons, List.foldl_cons, e2]
          exact h1 i b hb
      · refine Or.inr ⟨m + 1, b, h1, fun i c hi hc => ?_, by rw [List.take_succ_cons, List.foldl_cons, e2]; exact h3⟩
        cases i with
        | zero => cases hc; exact e3
        | succ i =>
          rw [List.take_succ_cons, List.foldl_cons, e2]
          exact h2 i c (by omega) hc
    cases e : f v a with
    | ok c =>
      cases c with
      | nx v' => exact absurd ⟨v', .inl e⟩ hx
      | ct v' => exact absurd ⟨v', .inr e⟩ hx
      | bk v' => exact .inr ⟨0, a, rfl, fun i b hi => absurd hi (Nat.not_lt_zero i), .inl ⟨v', e, R.forR_bk e⟩⟩
      | rt b => exact .inr ⟨0, a, rfl, fun i b hi => absurd hi (Nat.not_lt_zero i), .inr (.inl ⟨b, e, R.forR_rt e⟩)⟩
    | ex x => exact .inr ⟨0, a, rfl, fun i b hi => absurd hi (Nat.not_lt_zero i), .inr (.inr (.inl ⟨x, e, by rw [R.forR, e]⟩))⟩
    | no => exact .inr ⟨0, a, rfl, fun i b hi => absurd hi (Nat.not_lt_zero i), .inr (.inr (.inr (by rw [R.forR, e])))⟩
/-- what may be given out of a loop -/
def OutOk (out : ρ → Out) : Prop := ∀ b, (out b).fin = true ∧ (∀ e, out b ≠ .bk e) ∧ (∀ e, out b ≠ .ct e)
theorem sx_goes {tb : TS} {e1 : En} {eS : σ → En} {c : R (Ctl σ σ ρ)} {v : σ} (hg : goesR c = true) (h : Sx P w K W eX eS out tb e1 c eS) (hv : ∀ v', c = .ok (.nx v') ∨ c = .ok (.ct v') → v = v') : Se P w K tb e1 (.nc (eS v)) := by
  cases c with
  | ok c =>
    cases c with
    | nx v' => rw [hv v' (.inl rfl)]; exact se_nc h
    | ct v' => rw [hv v' (.inr rfl)]; exact se_cc h
    | bk v' => cases hg
    | rt b => cases hg
  | ex x => cases hg
  | no => cases hg
theorem sx_forC {tb : TS} {eS : σ → En} {f : σ → α → R (Ctl σ σ ρ)} {v0 : σ} {xs : List α} (ho : OutOk out) (hI : Ie P w K wi env (xs.map d) env1) (h0 : Le env1 (eS v0)) (hb : ∀ v a, ∃ e1, Ge P w K g (d a) (eS v) e1 ∧ Sx P w K W eX eS out tb e1 (f v a) eS) : Sx P w K W eX eL out (tFor wi g tb) env (R.forR xs v0 f) eS := by
  have hgo : ∀ (i : Nat) (a : α), xs[i]? = some a → goesR (f ((xs.take i).foldl (stepR f) v0) a) = true → ∃ e1, Ge P w K g (d a) (eS ((xs.take i).foldl (stepR f) v0)) e1 ∧ Se P w K tb e1 (.nc (eS ((xs.take (i + 1)).foldl (stepR f) v0))) := by
    intro i a ha hg
    obtain ⟨e1, g1, b1⟩ := hb ((xs.take i).foldl (stepR f) v0) a
    refine ⟨e1, g1, sx_goes hg b1 fun v' h => ?_⟩
    rw [List.take_add_one, ha, List.foldl_append]
    exact stepR_eq h
  rcases forR_runs (τ := τ) f xs v0 with ⟨h1, h2⟩ | ⟨m, a, hm, h1, h2⟩
  · rw [h2]
    refine se_for hI (fun i => eS ((xs.take i).foldl (stepR f) v0)) xs.length (by simp) h0 (fun i dd hi hd => ?_) (.inl ⟨by simp, by simp⟩)
    rw [List.getElem?_map] at hd
    obtain ⟨a, ha, rfl⟩ := Option.map_eq_some_iff.mp hd
    exact hgo i a ha (h1 i a ha)
  · have hlt : m < xs.length := (List.getElem?_eq_some_iff.mp hm).1
    obtain ⟨e1, g1, b1⟩ := hb ((xs.take m).foldl (stepR f) v0) a
    have fin : ∀ {o : Out}, ((o.fin = true ∧ (∀ e, o ≠ .bk e) ∧ (∀ e, o ≠ .ct e) ∧ Se P w K tb e1 o) ∨ ∃ e, o = .nx e ∧ Se P w K tb e1 (.bk e)) → Se P w K (tFor wi g tb) env o := fun hz =>
      se_for hI (fun i => eS ((xs.take i).foldl (stepR f) v0)) m (by simp; omega) h0 (fun i dd hi hd => by
        rw [List.getElem?_map] at hd
        obtain ⟨a, ha, rfl⟩ := Option.map_eq_some_iff.mp hd
        exact hgo i a ha (h1 i a hi ha)) (.inr ⟨d a, e1, by rw [List.getElem?_map, hm]; rfl, g1, hz⟩)
    rcases h2 with ⟨v', e, h2⟩ | ⟨b, e, h2⟩ | ⟨x, e, h2⟩ | h2
    · rw [h2]
      rw [e] at b1
      exact fin (.inr ⟨_, rfl, b1⟩)
    · rw [h2]
      rw [e] at b1
      exact fin (.inl ⟨(ho b).1, (ho b).2.1, (ho b).2.2, b1⟩)
    · rw [h2]
      rw [e] at b1
      exact fin (.inl ⟨rfl, (fun _ z => nomatch z), (fun _ z => nomatch z), b1⟩)
    · rw [h2]
      trivial
theorem sx_for {tb : TS} {eS : σ' → En} {f : σ' → α → R (Ctl σ' σ' ρ)} {v0 : σ'} {mi : R (List α)} {k : σ' → R (Ctl σ τ ρ)} (ho : OutOk out) (hI : Xi P w K W eX wi env mi d) (h0 : Le env (eS v0)) (hb : ∀ v a, ∃ e1, Ge P w K g (d a) (eS v) e1 ∧ Sx P w K W eX eS out tb e1 (f v a) eS) (hk : ∀ v, Sx P w K W eX eL out s2 (eS v) (k v) eN) : Sx P w K W eX eL out (tSeq (tFor wi g tb) s2) env (mi.bind fun xs => (R.forR xs v0 f).bindC k) eN := by
  cases mi with
  | ok xs => exact sx_seq (fun b => (ho b).1) (sx_forC ho (ie_p hI) h0 hb) hk
  | ex x => exact se_seqF (fun F0 H0 F H σ D S p => hI F0 H0 F H σ S _ fun od F1 H1 e S1 => p od F1 H1 σ e S1)
  | no => trivial
theorem sx_forY {tb : TS} {eS : σ' → En} {en : δ → En} {f : σ' → α → R (Ctl σ' σ' ρ)} {v0 : δ → σ'} {mi : R (List α × δ)} {k : σ' → R (Ctl σ τ ρ)} (ho : OutOk out) (hI : Yi P w K W eX wi env mi d en) (h0 : ∀ v, Le (en v) (eS (v0 v))) (hb : ∀ v a, ∃ e1, Ge P w K g (d a) (eS v) e1 ∧ Sx P w K W eX eS out tb e1 (f v a) eS) (hk : ∀ v, Sx P w K W eX eL out s2 (eS v) (k v) eN) : Sx P w K W eX eL out (tSeq (tFor wi g tb) s2) env (mi.bind2 fun xs v => (R.forR xs (v0 v) f).bindC k) eN := by
  cases mi with
  | ok p => exact sx_seq (fun b => (ho b).1) (sx_forC ho (IeW.ie hI) (h0 p.2) hb) hk
  | ex x => exact se_seqF (fun F0 H0 F H σ D S p => hI F0 H0 F H σ S _ fun od F1 H1 e S1 => p od F1 H1 σ e S1)
  | no => trivial
theorem se_whileN {o : Out} {tb : TS} (Pv : Nat → En → Prop) (hs : ∀ n e, Pv n e → ∃ b, Te P w K tt e b e ∧ (b = true → (∃ n' e', Pv n' e' ∧ n' < n ∧ Se P w K tb e (.nc e')) ∨ (o.fin = true ∧ (∀ e, o ≠ .bk e) ∧ (∀ e, o ≠ .ct e) ∧ Se P w K tb e o) ∨ ∃ e', o = .nx e' ∧ Se P w K tb e (.bk e')) ∧ (b = false → o = .nx e)) {n0 : Nat} (h0 : Pv n0 env) : Se P w K (tWhile tt tb) env o := fun F0 H0 F H σ D S p => by
  refine ⟨fun m σ' H' => ∃ e F', Pv m e ∧ Ex F F' ∧ Sm P w K F0 H0 F' H' σ' e, ⟨n0, env, F, h0, Ex.refl F, S⟩, ?_⟩
  rintro m σ' H' ⟨e, F', hP, ex, S'⟩
  obtain ⟨b, hb, h1, h2⟩ := hs m e hP
  refine hb.2 F0 H0 F' H' σ' S' _ fun F1 H1 k S1 => ?_
  cases b with
  | true =>
    refine ⟨fun σ2 H2 => ∃ n2 e2 F2, Pv n2 e2 ∧ n2 < m ∧ Ex F F2 ∧ Sm P w K F0 H0 F2 H2 σ2 e2, fun σ2 H2 ⟨n2, e2, F2, a, b, c, d⟩ => ⟨n2, b, e2, F2, a, c, d⟩, ?_⟩
    rcases h1 rfl with ⟨n', e', p1, p2, p3⟩ | ⟨ho, nb, nc, p3⟩ | ⟨e', rfl, p3⟩
    · exact p3 F0 H0 F1 H1 σ' _ S1 fun F4 H4 σ4 e4 S4 => ⟨⟨n', e', F4, p1, p2, (ex.trans k.f).trans e4, S4⟩, ⟨n', e', F4, p1, p2, (ex.trans k.f).trans e4, S4⟩⟩
    · refine p3 F0 H0 F1 H1 σ' _ S1 ?_
      have p' := p.ex (ex.trans k.f)
      cases o <;> first | exact p' | (cases ho; done) | exact absurd rfl (nb _) | exact absurd rfl (nc _)
    · exact p3 F0 H0 F1 H1 σ' _ S1 fun F4 H4 σ4 e4 S4 => p F4 H4 σ4 ((ex.trans k.f).trans e4) S4
  | false =>
    have := h2 rfl
    subst this
    exact p F1 H1 σ' (ex.trans k.f) S1
theorem sx_whileC {tb : TS} {eS : σ → En} {f : σ → R (Ctl σ σ ρ)} {c : σ → R Bool} {v0 : σ} {n : Nat} (ho : OutOk out) (h0 : Le env (eS v0)) (ht : ∀ v, Xt P w K W eX tt (eS v) (c v)) (hnx : ∀ v x, c v ≠ .ex x) (hb : ∀ v, Sx P w K W eX eS out tb (eS v) (f v) eS) : Sx P w K W eX eL out (tWhile tt tb) env (R.whileR n v0 c f) eS := by
  suffices h : Sx P w K W eX eL out (tWhile tt tb) (eS v0) (R.whileR n v0 c f) eS from sx_pre h0 h
  have key : ∀ {o : Out} (r : R (Ctl σ τ ρ)), r ≠ .no → (∀ v, r = .ok (.nx v) → o = .nx (eS v)) → (∀ b, r = .ok (.rt b) → o = out b) → (∀ x, r = .ex x → o = .rz W (x.xn K) eX) → (∀ v, r ≠ .ok (.bk v)) → (∀ v, r ≠ .ok (.ct v)) → ∀ n v0, (R.whileR n v0 c f : R (Ctl σ τ ρ)) = r → Se P w K (tWhile tt tb) (eS v0) o := by
    intro o r rn r1 r2 r3 r4 r5 n v0 hr
    refine se_whileN (fun m e => ∃ v, e = eS v ∧ (R.whileR m v c f : R (Ctl σ τ ρ)) = r) ?_ ⟨v0, rfl, hr⟩
    rintro m e ⟨v, rfl, hm⟩
    cases m with
    | zero => exact absurd hm.symm rn
    | succ m =>
      have htv := ht v
      cases hc : c v with
      | ok b =>
        rw [hc] at htv
        rw [R.whileR, hc] at hm
        refine ⟨b, te_p htv, ?_, ?_⟩
        · rintro rfl
          have hbv := hb v
          simp only at hm
          cases hf : f v with
          | ok z =>
            rw [hf] at hbv hm
            cases z with
            | nx v' => exact .inl ⟨m, _, ⟨v', rfl, hm⟩, Nat.lt_succ_self m, se_nc hbv⟩
            | ct v' => exact .inl ⟨m, _, ⟨v', rfl, hm⟩, Nat.lt_succ_self m, se_cc hbv⟩
            | bk v' => exact .inr (.inr ⟨_, r1 v' hm.symm, hbv⟩)
            | rt b =>
              have e := r2 b hm.symm
              subst e
              exact .inr (.inl ⟨(ho b).1, (ho b).2.1, (ho b).2.2, hbv⟩)
          | ex x =>
            rw [hf] at hbv hm
            have e := r3 x hm.symm
            subst e
            exact .inr (.inl ⟨rfl, (fun _ z => nomatch z), (fun _ z => nomatch z), hbv⟩)
          | no =>
            rw [hf] at hm
            exact absurd hm.symm rn
        · rintro rfl
          exact r1 v hm.symm
      | ex x => exact absurd hc (hnx v x)
      | no =>
        rw [R.whileR, hc] at hm
        exact absurd hm.symm rn
  cases e : (R.whileR n v0 c f : R (Ctl σ τ ρ)) with
  | ok z =>
    cases z with
    | nx v => exact key _ (by simp) (fun v' h => by cases h; rfl) (fun b h => by cases h) (fun x h => by cases h) (fun v h => by cases h) (fun v h => by cases h) n v0 e
    | rt b => exact key _ (by simp) (fun v' h => by cases h) (fun b h => by cases h; rfl) (fun x h => by cases h) (fun v h => by cases h) (fun v h => by cases h) n v0 e
    | ct v =>
      exfalso
      have : ∀ n v0, (R.whileR n v0 c f : R (Ctl σ τ ρ)) ≠ .ok (.ct v) := by
        intro n
        induction n with
        | zero => intro v0 h; cases h
        | succ n ih =>
          intro v0 h
          rw [R.whileR] at h
          cases hc : c v0 with
          | ok b =>
            rw [hc] at h
            cases b with
            | true =>
              simp only at h
              cases hf : f v0 with
              | ok z => rw [hf] at h; cases z <;> first | exact ih _ h | cases h
              | ex x => rw [hf] at h; cases h
              | no => rw [hf] at h; cases h
            | false => cases h
          | ex x => rw [hc] at h; cases h
          | no => rw [hc] at h; cases h
      exact this n v0 e
    | bk v =>
      exfalso
      have : ∀ n v0, (R.whileR n v0 c f : R (Ctl σ τ ρ)) ≠ .ok (.bk v) := by
        intro n
        induction n with
        | zero => intro v0 h; cases h
        | succ n ih =>
          intro v0 h
          rw [R.whileR] at h
          cases hc : c v0 with
          | ok b =>
            rw [hc] at h
            cases b with
            | true =>
              simp only at h
              cases hf : f v0 with
              | ok z => rw [hf] at h; cases z <;> first | exact ih _ h | cases h
              | ex x => rw [hf] at h; cases h
              | no => rw [hf] at h; cases h
            | false => cases h
          | ex x => rw [hc] at h; cases h
          | no => rw [hc] at h; cases h
      exact this n v0 e
  | ex x => exact key _ (by simp) (fun v' h => by cases h) (fun b h => by cases h) (fun x h => by cases h; rfl) (fun v h => by cases h) (fun v h => by cases h) n v0 e
  | no => trivial
theorem sx_while {tb : TS} {eS : σ' → En} {f : σ' → R (Ctl σ' σ' ρ)} {c : σ' → R Bool} {v0 : σ'} {n : Nat} {k : σ' → R (Ctl σ τ ρ)} (ho : OutOk out) (h0 : Le env (eS v0)) (ht : ∀ v, Xt P w K W eX tt (eS v) (c v)) (hnx : ∀ v x, c v ≠ .ex x) (hb : ∀ v, Sx P w K W eX eS out tb (eS v) (f v) eS) (hk : ∀ v, Sx P w K W eX eL out s2 (eS v) (k v) eN) : Sx P w K W eX eL out (tSeq (tWhile tt tb) s2) env ((R.whileR n v0 c f).bindC k) eN :=
  sx_seq (fun b => (ho b).1) (sx_whileC ho h0 ht hnx hb) hk
end
end Mw

set_option maxHeartbeats 1000000
/-! ### what changes what is one's own -/
namespace Mw
open PySem PySem.Spec PyProof.Rows L2 Qw
open Evl hiding ea_cons
open Pw (Dt Rp RpL Wk R2d R1d RLd RLn Kq KqL none_sub spX2 get_set set_same set_ne)
section
variable {P : Program} {w : World} {K : PySem.W.Frag} {W : WX} {eX : En} {α β γ δ σ σ' τ ρ : Type} {env env1 env2 : En} {ta tb te tc : TE} {tt tu : TT} {tA tr : TA} {wi : TI} {r : R2} {g : TG}
variable {da : α → Dt} {db : β → Dt} {dz : γ → Dt} {en en1 en2 : σ → En}
theorem ye_p {m : R α} {v : σ} (h : Xp P w K W eX te env m da) (he : env = en v) : Ye P w K W eX te env (m.bind fun a => .ok (a, v)) da en := by
  cases m with
  | ok a => exact (show Ee P w K te env (da a) (en v) from he ▸ ee_p h)
  | ex x => exact h
  | no => trivial
theorem yo_p {u : α → Ow} {m : R α} {v : σ} (h : Xo P w K W eX te env m u) (he : env = en v) : Yo P w K W eX te env (m.bind fun a => .ok (a, v)) u en := by
  cases m with
  | ok a => exact (show EnO P w K te env (u a) (en v) from he ▸ eo_p h)
  | ex x => exact h
  | no => trivial
theorem ya_p {ds : α → List Dt} {m : R α} {v : σ} (h : Xa P w K W eX tA env m ds) (he : env = en v) : Ya P w K W eX tA env (m.bind fun a => .ok (a, v)) ds en := by
  cases m with
  | ok a => exact (show EeA P w K tA env (ds a) (en v) from he ▸ ea_p h)
  | ex x => exact h
  | no => trivial
theorem yt_p {m : R Bool} {v : σ} (h : Xt P w K W eX tt env m) (he : env = en v) : Yt P w K W eX tt env (m.bind fun a => .ok (a, v)) en := by
  cases m with
  | ok a => exact (show Te P w K tt env a (en v) from he ▸ te_p h)
  | ex x => exact h
  | no => trivial
theorem yi_p {d : α → Dt} {m : R (List α)} {v : σ} (h : Xi P w K W eX wi env m d) (he : env = en v) : Yi P w K W eX wi env (m.bind fun a => .ok (a, v)) d en := by
  cases m with
  | ok a => exact (show IeW P w K wi env (a.map d) (en v) from he ▸ iew_p h)
  | ex x => exact h
  | no => trivial
theorem ye_op {ma : R (α × σ)} {mb : σ → R (β × σ)} {mr : α → β → R γ} (ha : Ye P w K W eX ta env ma da en) (hb : ∀ v, Ye P w K W eX tb (en v) (mb v) db en) (hr : ∀ a b, R2m K r (da a) (db b) (mr a b) dz) : Ye P w K W eX (tOp r ta tb) env (ma.bind2 fun a v => (mb v).bind2 fun b v => (mr a b).bind fun z => .ok (z, v)) dz en := by
  cases ma with
  | ok p =>
    obtain ⟨a, v⟩ := p
    have hb := hb v
    show Ye P w K W eX _ env ((mb v).bind2 fun b v => (mr a b).bind fun z => .ok (z, v)) dz en
    cases e : mb v with
    | ok q =>
      obtain ⟨b, v2⟩ := q
      rw [e] at hb
      have hr := hr a b
      show Ye P w K W eX _ env ((mr a b).bind fun z => .ok (z, v2)) dz en
      cases e2 : mr a b with
      | ok z => rw [e2] at hr; exact ee_op ha hb hr
      | ex x => rw [e2] at hr; exact False.elim hr
      | no => trivial
    | ex x => rw [e] at hb; exact er_op2e ha hb
    | no => trivial
  | ex x => exact er_op1 ha
  | no => trivial
theorem ya_nil {v : σ} (he : env = en v) : Ya P w K W eX tNil env (.ok ((), v)) (fun _ => []) en := (show EeA P w K tNil env [] (en v) from he ▸ ea_p ap_nil)
theorem ya_cons {ds : β → List Dt} {ma : R (α × σ)} {mr : σ → R (β × σ)} (ha : Ye P w K W eX te env ma da en) (hr : ∀ v, Ya P w K W eX tr (en v) (mr v) ds en) : Ya P w K W eX (tCons te tr) env (ma.bind2 fun a v => (mr v).bind2 fun r v => .ok ((a, r), v)) (fun p => da p.1 :: ds p.2) en := by
  cases ma with
  | ok p =>
    obtain ⟨a, v⟩ := p
    have hr := hr v
    show Ya P w K W eX _ env ((mr v).bind2 fun r v => .ok ((a, r), v)) _ en
    cases e : mr v with
    | ok q => rw [e] at hr; exact ea_cons ha hr
    | ex x => rw [e] at hr; exact era_2e ha hr
    | no => trivial
  | ex x => exact era_1 ha
  | no => trivial
theorem ye_cb {rr : List V → Hp → VK → Prop} {ds : α → List Dt} {ma : R (α × σ)} {m : α → R γ} (h : Ya P w K W eX tA env ma ds en) (hr : ∀ a, RLm K rr (ds a) (m a) dz) : Ye P w K W eX (tCB rr tA) env (ma.bind2 fun a v => (m a).bind fun z => .ok (z, v)) dz en := by
  cases ma with
  | ok p =>
    obtain ⟨a, v⟩ := p
    have hr := hr a
    show Ye P w K W eX _ env ((m a).bind fun z => .ok (z, v)) dz en
    cases e : m a with
    | ok z => rw [e] at hr; exact ee_cb h hr
    | ex x => rw [e] at hr; exact False.elim hr
    | no => trivial
  | ex x => exact er_cb h
  | no => trivial
theorem ye_tup {ds : α → List Dt} {ma : R (α × σ)} {f : α → γ} (h : Ya P w K W eX tA env ma ds en) (hd : ∀ a, Dt.tup (ds a) = dz (f a)) (hl : ∀ a, (ds a).length ≤ 100000 := by exact fun _ => Nat.le_of_ble_eq_true rfl) : Ye P w K W eX (tTup tA) env (ma.bind2 fun a v => .ok (f a, v)) dz en := by
  cases ma with
  | ok p =>
    show Ee P w K (tTup tA) env (dz (f p.1)) (en p.2)
    rw [← hd p.1]
    exact ee_tup h (hl p.1)
  | ex x => exact er_tup h
  | no => trivial
theorem yo_lst {ds : α → List Dt} {ma : R (α × σ)} {f : α → γ} {u : γ → Ow} (h : Ya P w K W eX tA env ma ds en) (hd : ∀ a, Ow.lst (ds a) = u (f a)) (hl : ∀ a, (ds a).length ≤ 100000 := by exact fun _ => Nat.le_of_ble_eq_true rfl) : Yo P w K W eX (tLst tA) env (ma.bind2 fun a v => .ok (f a, v)) u en := by
  cases ma with
  | ok p =>
    show EnO P w K (tLst tA) env (u (f p.1)) (en p.2)
    rw [← hd p.1]
    exact en_lst h (hl p.1)
  | ex x => exact er_lst h
  | no => trivial
theorem ye_o {m : R (α × σ)} {u : α → Ow} (h : Yo P w K W eX te env m u en) (hd : ∀ a, (u a).dt = some (da a)) : Ye P w K W eX te env m da en := by
  cases m with
  | ok p => exact eo_dt h (hd p.1)
  | ex x => exact h
  | no => trivial
theorem ye_call {E : XK} {ea : α → List Dt} {m : α → R γ} {er : γ → Rs} {ma : R (α × σ)} (h : Ya P w K W eX tA env ma ea en) (hd : ∀ c, er c = .d (dz c)) : Ye P w K W eX (tCall (spR P w K (RF K ea m er)) [] E tA) env (ma.bind2 fun a v => (m a).nox.bind fun z => .ok (z, v)) dz en := by
  cases ma with
  | ok p =>
    obtain ⟨a, v⟩ := p
    show Ye P w K W eX _ env ((m a).nox.bind fun z => .ok (z, v)) dz en
    cases e : m a with
    | ok c => exact ee_call h ⟨a, rfl, by rw [e]; exact (hd c).symm⟩
    | ex x => trivial
    | no => trivial
  | ex x => exact er_call h
  | no => trivial
theorem yo_call {E : XK} {ea : α → List Dt} {m : α → R γ} {er : γ → Rs} {u : γ → Ow} {ma : R (α × σ)} (h : Ya P w K W eX tA env ma ea en) (hd : ∀ c, er c = .o (u c)) : Yo P w K W eX (tCall (spR P w K (RF K ea m er)) [] E tA) env (ma.bind2 fun a v => (m a).nox.bind fun z => .ok (z, v)) u en := by
  cases ma with
  | ok p =>
    obtain ⟨a, v⟩ := p
    show Yo P w K W eX _ env ((m a).nox.bind fun z => .ok (z, v)) u en
    cases e : m a with
    | ok c => exact eo_call h ⟨a, rfl, by rw [e]; exact (hd c).symm⟩
    | ex x => trivial
    | no => trivial
  | ex x => exact er_call h
  | no => trivial
/-! a def that changes its first argument -/
def RM (us : δ → Ow) (ea : α → List Dt) (m : δ → α → R (β × δ)) (er : β → Dt) (u : Ow) (ds : List Dt) (d : Dt) (u' : Ow) : Prop := ∃ v a, u = us v ∧ ds = ea a ∧ match m v a with
  | .ok p => d = er p.1 ∧ u' = us p.2
  | _ => False
/-- f(p, ..), the others may change p too -/
theorem ee_callM' {E : XK} {i : Nat} {Rm : Ow → List Dt → Dt → Ow → Prop} {ta' : TA} {t' : Option Addr} {u0 u u' : Ow} {ds : List Dt} {d : Dt} (h : EeA P w K ta' env ds env1) (hi0 : env[i]? = some (.ow t' u0)) (hi : env1[i]? = some (.ow t' u)) (hf : Rm u ds d u') :
    Ee P w K (tCall (spM P w K Rm) [] E (tCons (tVar i) ta')) env d (env1.set i (.ow t' u')) := ⟨h.1.trans (Sh.set hi), fun F0 H0 F H σ S Q q => by
  obtain ⟨p0, o0, e0, _⟩ := S.own hi0
  refine ⟨_, e0, h.2 F0 H0 F H σ S _ fun vs F1 H1 w1 S1 r1 => ?_⟩
  obtain ⟨p, o1, e1, g0, g1, g2, g3, g4⟩ := S1.own hi
  rw [e0] at e1
  cases e1
  refine ⟨F1, p0, vs, o1, u, ds, d, u', by rw [List.append_nil], S1.sub, g1, g3, g4, r1, hf, fun v F2 H2 o2 f2 s2 k2 n2 b2 h2 r2 rv => ?_⟩
  have kW : Wk F1 H1 F2 (L2.upd H2 p0 o1) := by
    refine ⟨f2, fun a v e => ?_, fun a v e => ?_, n2⟩
    · by_cases z : a = p0
      · subst z
        rw [g3] at e
        rw [upd_same, e]
      · rw [upd_ne z]
        exact k2 a v z e
    · by_cases z : a = p0
      · subst z
        rw [n2 a _ g3 g1] at e
        cases e
      · rw [upd_ne z]
        exact s2 a v e
  have S2 := S1.wk kW
  have e2 : L2.upd (L2.upd H2 p0 o1) p0 o2 = H2 := by
    funext a
    by_cases z : a = p0
    · subst z
      rw [upd_same, h2]
    · rw [upd_ne z, upd_ne z]
  have S3 := S2.mut hi e0 r2
  have W3 := Wo.mut (o := o2) S2 hi e0
  rw [e2] at S3 W3
  exact q v F2 H2 (w1.trans h.1 ((Wo.of kW).trans Sh.refl W3)) S3 rv⟩
theorem ye_callM {E : XK} {i : Nat} {t' : Option Addr} {us : δ → Ow} {ea : α → List Dt} {m : δ → α → R (γ × δ)} {er : γ → Dt} {ma : R (α × σ)} {get : σ → δ} {put : σ → δ → σ} {v0 : δ} (h : Ya P w K W eX tA env ma ea en) (hi0 : env[i]? = some (.ow t' (us v0))) (hi : ∀ v, (en v)[i]? = some (.ow t' (us (get v)))) (hp : ∀ v x, (en v).set i (.ow t' (us x)) = en (put v x)) : Ye P w K W eX (tCall (spM P w K (RM us ea m er)) [] E (tCons (tVar i) tA)) env (ma.bind2 fun a v => (m (get v) a).nox.bind2 fun z x => .ok (z, put v x)) er en := by
  cases ma with
  | ok p =>
    obtain ⟨a, v⟩ := p
    show Ye P w K W eX _ env ((m (get v) a).nox.bind2 fun z x => .ok (z, put v x)) er en
    cases e : m (get v) a with
    | ok c =>
      show Ee P w K _ env (er c.1) (en (put v c.2))
      rw [← hp]
      exact ee_callM' h hi0 (hi v) ⟨get v, a, rfl, rfl, by rw [e]; exact ⟨rfl, rfl⟩⟩
    | ex x => trivial
    | no => trivial
  | ex x =>
    refine fun F0 H0 F H σ S Q q => ?_
    obtain ⟨p0, o0, e0, _⟩ := S.own hi0
    exact ⟨_, e0, h F0 H0 F H σ S _ q⟩
  | no => trivial
/-! tests -/
theorem yt_test {m : R (Bool × σ)} (h : Ye P w K W eX te env m eB en) : Yt P w K W eX (tTest te) env m en := by
  cases m with
  | ok b => exact te_test h
  | ex x => exact ert_test h
  | no => trivial
theorem yt_B {m : R (Bool × σ)} (h : Ye P w K W eX te env m eB en) : Yt P w K W eX (tB te) env m en := by
  cases m with
  | ok b => exact te_B h
  | ex x => exact ert_B h
  | no => trivial
theorem yt_not {m : R (Bool × σ)} (h : Yt P w K W eX tt env m en) : Yt P w K W eX (tNot tt) env (m.bind2 fun b v => .ok (!b, v)) en := by
  cases m with
  | ok b => exact te_not h
  | ex x => exact ert_not h
  | no => trivial
theorem yt_and {m : R (Bool × σ)} {n : σ → R (Bool × σ)} (h : Yt P w K W eX tt env m en) (h2 : ∀ v, Yt P w K W eX tu (en v) (n v) en) : Yt P w K W eX (tAnd tt tu) env (m.bind2 fun b v => if b = true then n v else .ok (false, v)) en := by
  cases m with
  | ok p =>
    obtain ⟨b, v⟩ := p
    cases b with
    | true =>
      have h2 := h2 v
      show Yt P w K W eX _ env (n v) en
      cases e : n v with
      | ok c => rw [e] at h2; exact te_andM h h2
      | ex x =>
        rw [e] at h2
        exact fun F0 H0 F H σ S Q q => h.2 F0 H0 F H σ S _ fun F1 H1 k S1 => (show tu σ H1 Q from h2 F0 H0 F1 H1 σ S1 _ fun od F2 H2 e => q od F2 H2 (k.f.trans e))
      | no => trivial
    | false => exact te_and (a := false) (b := true) h (fun z => nomatch z)
  | ex x => exact ert_and1 h
  | no => trivial
theorem yt_or {m : R (Bool × σ)} {n : σ → R (Bool × σ)} (h : Yt P w K W eX tt env m en) (h2 : ∀ v, Yt P w K W eX tu (en v) (n v) en) : Yt P w K W eX (tOr tt tu) env (m.bind2 fun b v => if b = true then .ok (true, v) else n v) en := by
  cases m with
  | ok p =>
    obtain ⟨b, v⟩ := p
    cases b with
    | false =>
      have h2 := h2 v
      show Yt P w K W eX _ env (n v) en
      cases e : n v with
      | ok c => rw [e] at h2; exact te_orM h h2
      | ex x =>
        rw [e] at h2
        exact fun F0 H0 F H σ S Q q => h.2 F0 H0 F H σ S _ fun F1 H1 k S1 => (show tu σ H1 Q from h2 F0 H0 F1 H1 σ S1 _ fun od F2 H2 e => q od F2 H2 (k.f.trans e))
      | no => trivial
    | true => exact te_or (a := true) (b := true) h (fun z => nomatch z)
  | ex x => exact ert_or1 h
  | no => trivial
theorem ye_if {m : R (Bool × σ)} {m1 m2 : σ → R (α × σ)} (h : Yt P w K W eX tt env m en) (h1 : ∀ v, Ye P w K W eX ta (en v) (m1 v) da en) (h2 : ∀ v, Ye P w K W eX tb (en v) (m2 v) da en) : Ye P w K W eX (tIf tt ta tb) env (m.bind2 fun b v => if b = true then m1 v else m2 v) da en := by
  cases m with
  | ok p =>
    obtain ⟨b, v⟩ := p
    cases b with
    | true =>
      have h1 := h1 v
      show Ye P w K W eX _ env (m1 v) da en
      cases e : m1 v with
      | ok c => rw [e] at h1; exact ee_if h (fun _ => h1) (fun z => nomatch z)
      | ex x =>
        rw [e] at h1
        exact fun F0 H0 F H σ S Q q => h.2 F0 H0 F H σ S _ fun F1 H1 k S1 => (show ta σ H1 Q from h1 F0 H0 F1 H1 σ S1 _ fun od F2 H2 e => q od F2 H2 (k.f.trans e))
      | no => trivial
    | false =>
      have h2 := h2 v
      show Ye P w K W eX _ env (m2 v) da en
      cases e : m2 v with
      | ok c => rw [e] at h2; exact ee_if h (fun z => nomatch z) (fun _ => h2)
      | ex x =>
        rw [e] at h2
        exact fun F0 H0 F H σ S Q q => h.2 F0 H0 F H σ S _ fun F1 H1 k S1 => (show tb σ H1 Q from h2 F0 H0 F1 H1 σ S1 _ fun od F2 H2 e => q od F2 H2 (k.f.trans e))
      | no => trivial
  | ex x => exact fun F0 H0 F H σ S Q q => h F0 H0 F H σ S _ q
  | no => trivial
/-! statements -/
variable {eL : τ → En} {out : ρ → Out} {s s1 s2 s3 : TS} {eN : σ' → En} {u : α → Ow}
theorem sx_asgY {i : Nat} {m : R (α × σ)} {k : α → σ → R (Ctl σ' τ ρ)} (h : Ye P w K W eX te env m da en) (hk : ∀ a v, Sx P w K W eX eL out s2 ((en v).set i (.d (da a))) (k a v) eN) : Sx P w K W eX eL out (tSeq (tAsg te (gName i)) s2) env (m.bind2 k) eN := by
  cases m with
  | ok p => exact sx_seqE (se_asg h) (hk p.1 p.2)
  | ex x => exact se_seqF (se_asgX h)
  | no => trivial
theorem sx_asgGY {m : R (α × σ)} {k : α → σ → R (Ctl σ' τ ρ)} {eG : α → σ → En} (h : Ye P w K W eX te env m da en) (hg : ∀ a v, Ge P w K g (da a) (en v) (eG a v)) (hk : ∀ a v, Sx P w K W eX eL out s2 (eG a v) (k a v) eN) : Sx P w K W eX eL out (tSeq (tAsg te g) s2) env (m.bind2 k) eN := by
  cases m with
  | ok p => exact sx_seqE (se_asgG h (hg p.1 p.2)) (hk p.1 p.2)
  | ex x => exact se_seqF (se_asgX h)
  | no => trivial
theorem sx_ownY {i : Nat} {m : R (α × σ)} {k : α → σ → R (Ctl σ' τ ρ)} (h : Yo P w K W eX te env m u en) (hk : ∀ a v, Sx P w K W eX eL out s2 ((en v).set i (.ow none (u a))) (k a v) eN) : Sx P w K W eX eL out (tSeq (tAsg te (gName i)) s2) env (m.bind2 k) eN := by
  cases m with
  | ok p => exact sx_seqE (se_own h) (hk p.1 p.2)
  | ex x => exact se_seqF (se_asgX h)
  | no => trivial
theorem sx_dropY {m : R (α × σ)} {k : α → σ → R (Ctl σ' τ ρ)} (h : Ye P w K W eX te env m da en) (hk : ∀ a v, Sx P w K W eX eL out s2 (en v) (k a v) eN) : Sx P w K W eX eL out (tSeq (tDrop te) s2) env (m.bind2 k) eN := by
  cases m with
  | ok p => exact sx_seqE (se_drop h) (hk p.1 p.2)
  | ex x => exact se_seqF (se_dropX h)
  | no => trivial
theorem se_rteL {d : Dt} {e1 e2 : En} (h : Se P w K s env (.rte d e1)) (l : Le e1 e2) : Se P w K s env (.rte d e2) := fun F0 H0 F H σ D S p => h F0 H0 F H σ D S fun v F1 H1 σ1 e1 S1 r => p v F1 H1 σ1 e1 (S1.le l) r
/-- a return of data; what was one's own is forgotten -/
theorem sx_retY {d : ρ → Dt} {m : R (ρ × σ)} (h : Ye P w K W eX te env m d en) (ho : ∀ b, out b = .rt (d b)) : Sx P w K W eX eL out (tSeq (tRet te) s2) env (m.bind2 fun a _ => .ok (.rt a)) eN := by
  cases m with
  | ok p =>
    show Se P w K _ env (out p.1)
    rw [ho p.1]
    exact se_seqF (se_ret h)
  | ex x => exact se_seqF (se_retX h)
  | no => trivial
theorem sx_retoY {u : ρ → Ow} {m : R (ρ × σ)} (h : Yo P w K W eX te env m u en) (ho : ∀ b, out b = .ro (u b)) : Sx P w K W eX eL out (tSeq (tRet te) s2) env (m.bind2 fun a _ => .ok (.rt a)) eN := by
  cases m with
  | ok p =>
    show Se P w K _ env (out p.1)
    rw [ho p.1]
    exact se_seqF (se_ro h)
  | ex x => exact se_seqF (se_retX h)
  | no => trivial
/-- .. it goes back with the rest -/
theorem sx_retE {eR : σ → En} {d : ρ → Dt} {out : ρ × σ → Out} {m : R (ρ × σ)} (h : Ye P w K W eX te env m d en) (hl : ∀ v, Le (en v) (eR v)) (ho : ∀ b v, out (b, v) = .rte (d b) (eR v)) : Sx P w K W eX eL out (tSeq (tRet te) s2) env (m.bind2 fun a v => .ok (.rt (a, v))) eN := by
  cases m with
  | ok p =>
    show Se P w K _ env (out (p.1, p.2))
    rw [ho p.1 p.2]
    exact se_rteL (se_seqF (se_rte h)) (hl p.2)
  | ex x => exact se_seqF (se_retX h)
  | no => trivial
theorem sx_ifY {m : R (Bool × σ)} {m1 m2 : σ → R (Ctl σ' τ ρ)} (h : Yt P w K W eX tt env m en) (h1 : ∀ v, Sx P w K W eX eL out (tSeq s1 s3) (en v) (m1 v) eN) (h2 : ∀ v, Sx P w K W eX eL out (tSeq s2 s3) (en v) (m2 v) eN) : Sx P w K W eX eL out (tSeq (tIfS tt s1 s2) s3) env (m.bind2 fun b v => if b = true then m1 v else m2 v) eN := by
  cases m with
  | ok p =>
    obtain ⟨b, v⟩ := p
    have key : ∀ {o : Out}, (b = true → Se P w K (tSeq s1 s3) (en v) o) → (b = false → Se P w K (tSeq s2 s3) (en v) o) → Se P w K (tSeq (tIfS tt s1 s2) s3) env o := fun a1 a2 => se_ifq h a1 a2
    cases b with
    | true =>
      have h1 := h1 v
      show Sx P w K W eX eL out _ env (m1 v) eN
      cases e : m1 v with
      | ok c => rw [e] at h1; cases c <;> exact key (fun _ => h1) (fun z => nomatch z)
      | ex x => rw [e] at h1; exact key (fun _ => h1) (fun z => nomatch z)
      | no => trivial
    | false =>
      have h2 := h2 v
      show Sx P w K W eX eL out _ env (m2 v) eN
      cases e : m2 v with
      | ok c => rw [e] at h2; cases c <;> exact key (fun z => nomatch z) (fun _ => h2)
      | ex x => rw [e] at h2; exact key (fun z => nomatch z) (fun _ => h2)
      | no => trivial
  | ex x => exact fun F0 H0 F H σ D S p => h F0 H0 F H σ S _ fun od F1 H1 e S1 => p od F1 H1 σ e S1
  | no => trivial
theorem sx_app {i : Nat} {t' : Option Addr} {xs : List Dt} {m : R α} {k : α → R (Ctl σ' τ ρ)} (hi : env[i]? = some (.ow t' (.lst xs))) (h : Xp P w K W eX te env m da) (hk : ∀ a, Sx P w K W eX eL out s2 (env.set i (.ow t' (.lst (xs ++ [da a])))) (k a) eN) : Sx P w K W eX eL out (tSeq (tDrop (tBM K "list" rAppend (tVar i) (tCons te tNil))) s2) env (m.bind fun a => R.need (xs.length < 100000) (k a)) eN := by
  cases m with
  | ok a =>
    show Sx P w K W eX eL out _ env (R.need _ (k a)) eN
    by_cases hz : xs.length < 100000
    · rw [R.need_pos hz]
      exact sx_seqE (se_app hi (ee_p h) hi hz) (hk a)
    · rw [R.need, if_neg hz]
      trivial
  | ex x =>
    refine se_seqF (se_dropX (x := x.xn K) fun F0 H0 F H σ S Q q => ?_)
    obtain ⟨p0, o0, e0, g0, g1, g2, g3, vs, rfl, g4⟩ := S.own hi
    exact ⟨_, e0, .inl ⟨rfl, vs, sq_of g3⟩, h F0 H0 F H σ S _ q⟩
  | no => trivial
theorem sx_appY {i : Nat} {t' : Option Addr} {xs : List Dt} {m : R (α × σ)} {k : α → σ → R (Ctl σ' τ ρ)} (hi : env[i]? = some (.ow t' (.lst xs))) (hi1 : ∀ v, (en v)[i]? = some (.ow t' (.lst xs))) (h : Ye P w K W eX te env m da en) (hk : ∀ a v, Sx P w K W eX eL out s2 ((en v).set i (.ow t' (.lst (xs ++ [da a])))) (k a v) eN) : Sx P w K W eX eL out (tSeq (tDrop (tBM K "list" rAppend (tVar i) (tCons te tNil))) s2) env (m.bind2 fun a v => R.need (xs.length < 100000) (k a v)) eN := by
  cases m with
  | ok p =>
    show Sx P w K W eX eL out _ env (R.need _ (k p.1 p.2)) eN
    by_cases hz : xs.length < 100000
    · rw [R.need_pos hz]
      exact sx_seqE (se_app hi h (hi1 p.2) hz) (hk p.1 p.2)
    · rw [R.need, if_neg hz]
      trivial
  | ex x =>
    refine se_seqF (se_dropX (x := x.xn K) fun F0 H0 F H σ S Q q => ?_)
    obtain ⟨p0, o0, e0, g0, g1, g2, g3, vs, rfl, g4⟩ := S.own hi
    exact ⟨_, e0, .inl ⟨rfl, vs, sq_of g3⟩, h F0 H0 F H σ S _ q⟩
  | no => trivial
/-! comprehensions whose parts change what is one's own -/
/-- e1, but for the slots vs, which are those of e0 -/
def unw (vs : List Nat) (e0 e1 : En) : En := (e0.zip e1).zipIdx.map fun p => if vs.contains p.2 = true then p.1.1 else p.1.2
def isOw : Option Sl → Bool
  | some (.ow _ _) => true
  | _ => false
theorem unw_get {vs : List Nat} {e0 e1 : En} {i : Nat} {x : Sl} (h : (unw vs e0 e1)[i]? = some x) : (vs.contains i = true ∧ e0[i]? = some x) ∨ (vs.contains i = false ∧ e1[i]? = some x) := by
  unfold unw at h
  rw [List.getElem?_map] at h
  obtain ⟨⟨⟨a, b⟩, j⟩, h1, h2⟩ := Option.map_eq_some_iff.mp h
  rw [List.getElem?_zipIdx] at h1
  obtain ⟨⟨a', b'⟩, h3, h4⟩ := Option.map_eq_some_iff.mp h1
  cases h4
  rw [List.getElem?_zip_eq_some] at h3
  rw [Nat.zero_add] at h2
  cases hc : vs.contains i with
  | true =>
    simp only [hc, if_true] at h2
    exact .inl ⟨rfl, by rw [← h2]; exact h3.1⟩
  | false =>
    simp only [hc, Bool.false_eq_true, if_false] at h2
    exact .inr ⟨rfl, by rw [← h2]; exact h3.2⟩
theorem wipe_ne {σ : L2.St} : ∀ {vs : List Nat} {i : Nat}, vs.contains i = false → (L2.wipe σ vs)[i]? = σ[i]?
  | [], i, _ => rfl
  | j :: vs, i, h => by
    rw [List.contains_cons, Bool.or_eq_false_iff] at h
    show ((L2.wipe σ vs).set j none)[i]? = _
    rw [List.getElem?_set_ne (by simpa using fun z => (beq_eq_false_iff_ne.mp h.1) z.symm)]
    exact wipe_ne h.2
theorem wipe_get {σ σ' : L2.St} {vs : List Nat} (h : L2.wipe σ' vs = L2.wipe σ vs) {i : Nat} (hi : vs.contains i = false) : σ'[i]? = σ[i]? := by
  rw [← wipe_ne hi, h, wipe_ne hi]
/-- the slots around, behind a turn -/
theorem Sm.unw {vs : List Nat} {F0 H0 F H F2 H2 : Hp} {σ1 σ2 : L2.St} {e0 e1 : En} (S0 : Sm P w K F0 H0 F H σ1 e0) (S2 : Sm P w K F0 H0 F2 H2 σ2 e1) (hw : L2.wipe σ2 vs = L2.wipe σ1 vs) (e : Ex F F2) (hl : e0.length = e1.length) (no : ∀ i, vs.contains i = true → isOw e0[i]? = false) : Sm P w K F0 H0 F2 H2 σ1 (unw vs e0 e1) := by
  refine ⟨S0.e0, S2.g, ?_, fun i s h => ?_, fun i j t t' u u' p ne h1 h2 h => ?_⟩
  · rw [S0.len]
    simp [Mw.unw, hl]
  · rcases unw_get h with ⟨hc, h⟩ | ⟨hc, h⟩
    · obtain ⟨v, k1, k2⟩ := S0.sl i s h
      refine ⟨v, k1, ?_⟩
      cases s with
      | x => trivial
      | u => exact k2
      | d d =>
        obtain ⟨y, e', r⟩ := k2
        exact ⟨y, e', r.mono e⟩
      | ex a od y => exact ⟨k2.1, k2.2.mono e⟩
      | ow t u =>
        have := no i hc
        rw [h] at this
        cases this
    · obtain ⟨v, k1, k2⟩ := S2.sl i s h
      exact ⟨v, by rw [← wipe_get hw hc]; exact k1, k2⟩
  · have cs : ∀ {i : Nat} {t : Option Addr} {u : Ow}, (Mw.unw vs e0 e1)[i]? = some (.ow t u) → vs.contains i = false ∧ e1[i]? = some (.ow t u) := by
      intro i t u h
      rcases unw_get h with ⟨hc, h⟩ | h
      · have := no i hc
        rw [h] at this
        cases this
      · exact h
    obtain ⟨c1, g1⟩ := cs h1
    obtain ⟨c2, g2⟩ := cs h2
    rw [← wipe_get hw c1] at h
    rw [← wipe_get hw c2]
    exact S2.df i j t t' u u' p ne g1 g2 h
end
end Mw

set_option maxHeartbeats 1000000
/-! ### comprehensions -/
namespace Mw
open PySem PySem.Spec PyProof.Rows L2 Qw
open Evl hiding ea_cons
open Pw (Dt Rp RpL Wk R2d R1d RLd RLn Kq KqL none_sub spX2 get_set set_same set_ne rangeD rangeD_len)
namespace R
variable {α β γ σ : Type}
theorem lcG_inv {e : β → Dt} {t : α → R Bool} {f : α → R β} : ∀ {xs : List α} {l : List β}, lcG xs t f = .ok l →
    (∀ a ∈ xs, ∃ b, t a = .ok b ∧ (b = true → ∃ y, f a = .ok y)) ∧ l.map e = (xs.filter fun a => match t a with | .ok b => b | _ => false).map fun a => match f a with | .ok y => e y | _ => .non
  | [], l, h => by
    cases h
    exact ⟨fun a h => by simp at h, rfl⟩
  | a :: xs, l, h => by
    unfold lcG at h
    obtain ⟨b, hb, h⟩ := bind_of h
    cases b with
    | true =>
      simp only [if_true] at h
      obtain ⟨y, hy, h⟩ := bind_of h
      obtain ⟨l', hl, h⟩ := bind_of h
      cases h
      obtain ⟨i1, i2⟩ := lcG_inv (e := e) hl
      refine ⟨fun c hc => ?_, ?_⟩
      · rcases List.mem_cons.mp hc with rfl | hc
        · exact ⟨true, hb, fun _ => ⟨y, hy⟩⟩
        · exact i1 c hc
      · rw [List.filter_cons_of_pos (by rw [hb]), List.map_cons, List.map_cons, i2, hy]
    | false =>
      simp only [Bool.false_eq_true, if_false] at h
      obtain ⟨i1, i2⟩ := lcG_inv (e := e) h
      refine ⟨fun c hc => ?_, ?_⟩
      · rcases List.mem_cons.mp hc with rfl | hc
        · exact ⟨false, hb, fun z => nomatch z⟩
        · exact i1 c hc
      · rw [List.filter_cons_of_neg (by rw [hb]; decide), i2]
theorem bind2_of {m : R (α × σ)} {f : α → σ → R β} {b : β} (h : m.bind2 f = .ok b) : ∃ a v, m = .ok (a, v) ∧ f a v = .ok b := by
  cases m with
  | ok p => exact ⟨p.1, p.2, rfl, h⟩
  | ex x => cases h
  | no => cases h
theorem lcGS_snoc {t : α → σ → R (Bool × σ)} {f : α → σ → R (β × σ)} {a : α} : ∀ (xs : List α) (v : σ), lcGS (xs ++ [a]) v t f = (lcGS xs v t f).bind2 fun l v => (t a v).bind2 fun b v1 => if b = true then (f a v1).bind2 fun y v2 => .ok (l ++ [y], v2) else .ok (l, v1)
  | [], v => by
    show lcGS [a] v t f = _
    unfold lcGS
    simp only [bind2_ok]
    cases t a v with
    | ok p =>
      simp only [bind2]
      cases p.1 with
      | true =>
        simp only [if_true]
        cases f a p.2 with
        | ok q => rfl
        | ex x => rfl
        | no => rfl
      | false => rfl
    | ex x => rfl
    | no => rfl
  | c :: xs, v => by
    rw [List.cons_append, lcGS, lcGS]
    cases t c v with
    | ok p =>
      simp only [bind2]
      cases p.1 with
      | true =>
        simp only [if_true]
        cases f c p.2 with
        | ok q =>
          simp only
          rw [lcGS_snoc xs q.2]
          cases lcGS xs q.2 t f with
          | ok z =>
            simp only [bind2]
            cases t a z.2 with
            | ok y =>
              simp only
              cases y.1 with
              | true =>
                simp only [if_true]
                cases f a y.2 with
                | ok w => rfl
                | ex x => rfl
                | no => rfl
              | false => rfl
            | ex x => rfl
            | no => rfl
          | ex x => rfl
          | no => rfl
        | ex x => rfl
        | no => rfl
      | false =>
        simp only [Bool.false_eq_true, if_false]
        rw [lcGS_snoc xs p.2]
        rfl
    | ex x => rfl
    | no => rfl
theorem lcGS_pre {t : α → σ → R (Bool × σ)} {f : α → σ → R (β × σ)} : ∀ (ys xs : List α) (v : σ) (q : List β × σ), lcGS (xs ++ ys) v t f = .ok q → ∃ q', lcGS xs v t f = .ok q'
  | [], xs, v, q, h => ⟨q, by rwa [List.append_nil] at h⟩
  | y :: ys, xs, v, q, h => by
    rw [show xs ++ y :: ys = (xs ++ [y]) ++ ys by simp] at h
    obtain ⟨q1, h1⟩ := lcGS_pre ys (xs ++ [y]) v q h
    rw [lcGS_snoc] at h1
    obtain ⟨l, v1, h2, _⟩ := bind2_of h1
    exact ⟨_, h2⟩
theorem lcGS_len {t : α → σ → R (Bool × σ)} {f : α → σ → R (β × σ)} : ∀ {ys : List α} {v : σ} {q : List β × σ}, lcGS ys v t f = .ok q → q.1.length ≤ ys.length
  | [], v, q, h => by cases h; exact Nat.le_refl _
  | c :: ys, v, q, h => by
    unfold lcGS at h
    obtain ⟨b, v5, h1, h⟩ := bind2_of h
    cases b with
    | true =>
      simp only [if_true] at h
      obtain ⟨y, v6, h2, h⟩ := bind2_of h
      obtain ⟨l, v7, h3, h⟩ := bind2_of h
      cases h
      have := lcGS_len h3
      simp only [List.length_cons]
      simp only at this
      omega
    | false =>
      simp only [Bool.false_eq_true, if_false] at h
      have := lcGS_len h
      simp only [List.length_cons]
      omega
end R
section
variable {P : Program} {w : World} {K : PySem.W.Frag} {W : WX} {eX : En} {α β γ δ σ σ' τ ρ : Type} {env env1 env2 : En} {ta tb te tc : TE} {tt tu : TT} {tA tr : TA} {wi : TI} {r : R2} {g : TG}
variable {d : α → Dt} {e : β → Dt} {en : σ → En}
theorem xo_lc {vs : List Nat} {mi : R (List α)} {t : α → R Bool} {f : α → R β} (hI : Xi P w K W eX wi env mi d)
    (hs : ∀ a, ∃ e1, Gc P w K g vs (d a) (wipeE env vs) e1 ∧ Xt P w K W eX tt e1 (t a) ∧ Xp P w K W eX te e1 (f a) e) : Xo P w K W eX (tLc wi g tt te vs) env (mi.bind fun xs => (R.lcR xs t f).nox) (oL e) := by
  cases mi with
  | ok xs =>
    show Xo P w K W eX _ env ((R.lcR xs t f).nox) (oL e)
    cases hr : R.lcR xs t f with
    | ok l =>
      unfold R.lcR R.need at hr
      by_cases hn : xs.length ≤ 40000
      · rw [if_pos hn] at hr
        obtain ⟨h1, h2⟩ := R.lcG_inv (e := e) hr
        show EpO P w K _ env (Ow.lst (l.map e))
        rw [h2]
        refine po_n (np_lcT xs d hI hn _ _ fun i a ha => ?_)
        obtain ⟨e1, g1, t1, f1⟩ := hs a
        obtain ⟨b, hb, hf⟩ := h1 a (List.mem_of_getElem? ha)
        rw [hb] at t1
        refine ⟨e1, g1, by rw [hb]; exact t1, fun hp => ?_⟩
        rw [hb] at hp
        obtain ⟨y, hy⟩ := hf hp
        rw [hy] at f1 ⊢
        exact f1
      · rw [if_neg hn] at hr
        cases hr
    | ex x => trivial
    | no => trivial
  | ex x => exact fun F0 H0 F H σ S Q q => hI F0 H0 F H σ S _ q
  | no => trivial
theorem Sh.nil : Sh [] [] := Sh.refl
theorem Sh.s {a b : En} {s : Sl} (h : Sh a b) : Sh (s :: a) (s :: b) := ⟨by simp [h.1], fun i t z => by
  cases i with
  | zero => exact .inl (by simpa using z)
  | succ i => exact h.2 i t (by simpa using z)⟩
theorem Sh.o {a b : En} {t : Option Addr} {u u' : Ow} (h : Sh a b) : Sh (.ow t u :: a) (.ow t u' :: b) := ⟨by simp [h.1], fun i s z => by
  cases i with
  | zero => exact .inr ⟨t, u, u', by simpa using z.symm, rfl⟩
  | succ i => exact h.2 i s (by simpa using z)⟩
/-- what stands so far, the list at D -/
structure MkS (P : Program) (w : World) (K : PySem.W.Frag) (F0 H0 F1 H1 : Hp) (σ : L2.St) (e0 e1 : En) (D : Addr) (l : List Dt) (F2 H2 : Hp) (acc : List V) : Prop where
  f : Ex F1 F2
  d : F2 D = none
  a : H2 D = some (.lst acc)
  r : RpL K F2 l acc
  s : Sm P w K F0 H0 F2 H2 σ e1
  h : ∀ a o, H1 a = some o → ¬ Own σ e0 a → H2 a = some o
  n : ∀ a o, H1 a = some o → F1 a = none → F2 a = none
  b : ∀ a, H2 a = none → H1 a = none
theorem yo_lcS {vs : List Nat} {mi : R (List α × σ)} {t : α → σ → R (Bool × σ)} {f : α → σ → R (β × σ)} {eb : σ → α → En} (hI : Yi P w K W eX wi env mi d en)
    (hE : ∀ v v' a, unw vs (en v) (eb v' a) = en v') (hZ : ∀ v v' a, (en v).length = (eb v' a).length) (hO : ∀ v i, vs.contains i = true → isOw (en v)[i]? = false) (hS : ∀ v v', Sh (en v) (en v'))
    (hs : ∀ v a, Gc P w K g vs (d a) (wipeE (en v) vs) (eb v a) ∧ Yt P w K W eX tt (eb v a) (t a v) (fun v' => eb v' a) ∧ Ye P w K W eX te (eb v a) (f a v) e (fun v' => eb v' a)) : Yo P w K W eX (tLc wi g tt te vs) env (mi.bind2 fun xs v => (R.lcS xs v t f).nox) (oL e) en := by
  cases mi with
  | ok p =>
    obtain ⟨xs, v0⟩ := p
    show Yo P w K W eX _ env ((R.lcS xs v0 t f).nox) (oL e) en
    cases hr : R.lcS xs v0 t f with
    | ok q =>
      obtain ⟨l, v1⟩ := q
      unfold R.lcS R.need at hr
      by_cases hn : xs.length ≤ 40000
      · rw [if_pos hn] at hr
        refine ⟨hI.1.trans (hS v0 v1), fun F0 H0 F H σ S Q q => hI.2 F0 H0 F H σ S _ fun J F1 H1 k1 S1 Wl D hD => ?_⟩
        have nF : F1 D = none := none_sub S1.sub hD
        have n0 : H0 D = none := none_sub S1.g.h hD
        have nO : ∀ v, ¬ Own σ (en v) D := fun v z => S1.ownNew hD ((hS v0 v).own z)
        refine lc_it Wl (fun i H2 => ∃ l v F2 acc, R.lcGS (xs.take i) v0 t f = .ok (l, v) ∧ MkS P w K F0 H0 F1 H1 σ (en v0) (en v) D (l.map e) F2 H2 acc)
          ⟨[], v0, F1, [], rfl, Ex.refl F1, nF, upd_same, rfl, S1.upd _ nF n0 (nO v0), fun a o h _ => by rw [upd_ne (ne_of_none h hD)]; exact h, fun _ _ _ n => n, fun a h => ?_⟩ (fun i H2 _ h => ?_) (fun i x H2 H2' hi h y => ?_) (fun H2 h => ?_)
        · by_cases z : a = D
          · subst z
            exact hD
          · rwa [upd_ne z] at h
        · obtain ⟨l, v, F2, acc, _, M⟩ := h
          exact M.f.trans M.s.sub
        · obtain ⟨l2, v, F2, acc, hl, M⟩ := h
          obtain ⟨F3, d', w3, hd', r3⟩ := y F2 M.f M.s.sub
          rw [List.length_map] at hi
          have hi : i < xs.length := hi
          obtain ⟨a, ha⟩ : ∃ a, xs[i]? = some a := ⟨_, List.getElem?_eq_getElem hi⟩
          rw [List.getElem?_map, ha] at hd'
          cases hd'
          obtain ⟨hg, ht, he⟩ := hs v a
          have etake : xs.take (i + 1) = xs.take i ++ [a] := by
            rw [List.take_add_one, ha]
            rfl
          obtain ⟨⟨l3, v3⟩, hq⟩ : ∃ q', R.lcGS (xs.take (i + 1)) v0 t f = .ok q' := R.lcGS_pre (xs.drop (i + 1)) _ v0 _ (by rw [List.take_append_drop]; exact hr)
          have hq0 := hq
          rw [etake, R.lcGS_snoc, hl] at hq
          simp only [R.bind2_ok] at hq
          obtain ⟨b, v2, hb, hq⟩ := R.bind2_of hq
          rw [hb] at ht
          refine hg F0 H0 F3 H2' σ x ((M.s.wk w3).wipe vs) r3 _ fun σ' hw hOw S3 => ⟨hw, ?_⟩
          have own3 : ∀ {p : Addr}, Own σ' (eb v a) p → Own σ (en v0) p := fun z => (hS v0 v).own (own_wipe (hOw _ z))
          refine ht.2 F0 H0 F3 H2' _ S3 _ fun F4 H4 w4 S4 => ?_
          have nD3 : ¬ Own σ' (eb v a) D := fun z => nO v0 (own3 z)
          have hD4 : H4 D = some (.lst acc) := w4.h D _ (w3.h D _ M.a) nD3
          have dF3 : F3 D = none := w3.n D _ M.a M.d
          have dF4 : F4 D = none := w4.n D _ (w3.h D _ M.a) dF3
          cases b with
          | true =>
            simp only [if_true] at hq
            obtain ⟨yy, v4, hf, hq⟩ := R.bind2_of hq
            cases hq
            -- the element, from the slots behind the test
            obtain ⟨_, _, he⟩ := hs v2 a
            rw [hf] at he
            show te σ' H4 _
            refine he.2 F0 H0 F4 H4 _ S4 _ fun vv F5 H5 w5 S5 r5 => ?_
            have nD4 : ¬ Own σ' (eb v2 a) D := fun z => nD3 (ht.1.own z)
            have hD5 : H5 D = some (.lst acc) := w5.h D _ hD4 nD4
            have dF5 : F5 D = none := w5.n D _ hD4 dF4
            have x5 : Ex F2 F5 := (w3.f.trans w4.f).trans w5.f
            have So : Sm P w K F0 H0 F5 H5 σ (en v3) := by
              have := Sm.unw M.s S5 hw x5 (hZ v v3 a) (hO v)
              rwa [hE] at this
            have hlen : acc.length < sizeLine := by
              rw [← M.r.length, List.length_map]
              have h1 := R.lcGS_len hl
              have h2 : (xs.take i).length ≤ i := by simp; omega
              simp only at h1
              exact sz_lt (by omega)
            refine ⟨acc, hD5, hlen, _, v3, F5, acc ++ [vv], hq0, M.f.trans x5, dF5, upd_same, ?_, So.upd _ dF5 n0 (nO v3), fun a' o h h' => ?_, fun a' o h h' => ?_, fun a' h => ?_⟩
            · rw [List.map_append]
              exact RpL.append (M.r.mono x5) (RpL.cons r5 RpL.nil)
            · rw [upd_ne (ne_of_none h hD)]
              exact w5.h a' o (w4.h a' o (w3.h a' o (M.h a' o h h')) fun z => h' (own3 z)) fun z => h' (own3 (ht.1.own z))
            · by_cases z : a' = D
              · subst z
                exact dF5
              · have g2 : F2 a' = none := M.n a' o h h'
                have hh : ∀ {o' : HO}, H2 a' = some o' → F5 a' = none := fun e2 => by
                  have e3 := w3.h a' _ e2
                  have f3 := w3.n a' _ e2 g2
                  have f4 := w4.n a' _ e3 f3
                  cases e4 : H4 a' with
                  | some o4 => exact w5.n a' o4 e4 f4
                  | none =>
                    have := w4.b a' e4
                    rw [e3] at this
                    cases this
                cases e2 : H2 a' with
                | some o2 => exact hh e2
                | none =>
                  have := M.b a' e2
                  rw [h] at this
                  cases this
            · by_cases z : a' = D
              · subst z
                exact hD
              · rw [upd_ne z] at h
                exact M.b a' (none_sub w3.h (w4.b a' (w5.b a' h)))
          | false =>
            simp only [Bool.false_eq_true, if_false] at hq
            cases hq
            have x4 : Ex F2 F4 := w3.f.trans w4.f
            have So : Sm P w K F0 H0 F4 H4 σ (en v3) := by
              have := Sm.unw M.s S4 hw x4 (hZ v v3 a) (hO v)
              rwa [hE] at this
            refine ⟨_, v3, F4, acc, hq0, M.f.trans x4, dF4, hD4, M.r.mono x4, So, fun a' o h h' => w4.h a' o (w3.h a' o (M.h a' o h h')) fun z => h' (own3 z), fun a' o h h' => ?_, fun a' h => M.b a' (none_sub w3.h (w4.b a' h))⟩
            have g2 : F2 a' = none := M.n a' o h h'
            cases e2 : H2 a' with
            | some o2 => exact w4.n a' _ (w3.h a' _ e2) (w3.n a' _ e2 g2)
            | none =>
              have := M.b a' e2
              rw [h] at this
              cases this
        · obtain ⟨l2, v2, F2, acc, hl, M⟩ := h
          rw [List.length_map, List.take_length, hr] at hl
          cases hl
          exact q D (.lst acc) F2 H2 ⟨k1.f.trans M.f, fun a o h h' => by
            have h1 := k1.h a o h h'
            exact M.h a o h1 fun z => h' (hI.1.own z), M.s.sub, fun a o h h' => (by
            cases e1 : H1 a with
            | some o1 => exact M.n a o1 e1 (k1.n a o h h')
            | none =>
              have := k1.b a e1
              rw [h] at this
              cases this), fun a h => k1.b a (M.b a h)⟩ M.s (k1.b D hD) M.d M.a ⟨acc, rfl, M.r⟩
      · rw [if_neg hn] at hr
        cases hr
    | ex x => trivial
    | no => trivial
  | ex x => exact fun F0 H0 F H σ S Q q => hI F0 H0 F H σ S _ q
  | no => trivial
/-! walks -/
def rangeI (lo : Int) (n : Nat) : List Int := (List.range n).map fun i : Nat => lo + i
theorem rangeI_map (lo : Int) (n : Nat) : (rangeI lo n).map eI = rangeD lo n := by
  unfold rangeI rangeD
  rw [List.map_map]
  rfl
theorem xi_rng1 {ma : R α} {n : α → Int} (h : Xa P w K W eX tA env ma (fun a => [.int (n a)])) : Xi P w K W eX (iRng1 tA) env (ma.bind fun a => R.need (-100000 ≤ n a ∧ n a ≤ 100000) (.ok (rangeI 0 (n a).toNat))) eI := by
  cases ma with
  | ok a =>
    show Xi P w K W eX _ env (R.need _ _) eI
    by_cases hn : -100000 ≤ n a ∧ n a ≤ 100000
    · rw [R.need_pos hn]
      show Ip P w K _ env ((rangeI 0 (n a).toNat).map eI)
      rw [rangeI_map]
      exact ip_rng1 h hn
    · rw [R.need, if_neg hn]
      trivial
  | ex x => exact fun F0 H0 F H σ S Q q => h F0 H0 F H σ S _ q
  | no => trivial
theorem xi_rng2 {ma : R α} {lo n : α → Int} (h : Xa P w K W eX tA env ma (fun a => [.int (lo a), .int (n a)])) : Xi P w K W eX (iRng2 tA) env (ma.bind fun a => R.need (-100000 ≤ n a ∧ n a ≤ 100000 ∧ -100000 ≤ lo a ∧ lo a ≤ 100000) (.ok (rangeI (lo a) (n a - lo a).toNat))) eI := by
  cases ma with
  | ok a =>
    show Xi P w K W eX _ env (R.need _ _) eI
    by_cases hn : -100000 ≤ n a ∧ n a ≤ 100000 ∧ -100000 ≤ lo a ∧ lo a ≤ 100000
    · rw [R.need_pos hn]
      show Ip P w K _ env ((rangeI (lo a) (n a - lo a).toNat).map eI)
      rw [rangeI_map]
      exact ip_rng2 h hn
    · rw [R.need, if_neg hn]
      trivial
  | ex x => exact fun F0 H0 F H σ S Q q => h F0 H0 F H σ S _ q
  | no => trivial
theorem yi_rng1 {ma : R (α × σ)} {n : α → Int} (h : Ya P w K W eX tA env ma (fun a => [.int (n a)]) en) : Yi P w K W eX (iRng1 tA) env (ma.bind2 fun a v => R.need (-100000 ≤ n a ∧ n a ≤ 100000) (.ok (rangeI 0 (n a).toNat, v))) eI en := by
  cases ma with
  | ok p =>
    obtain ⟨a, v⟩ := p
    show Yi P w K W eX _ env (R.need _ _) eI en
    by_cases hn : -100000 ≤ n a ∧ n a ≤ 100000
    · rw [R.need_pos hn]
      refine ⟨h.1, fun F0 H0 F H σ S R k => ?_⟩
      show iRng1 tA σ H R
      refine h.2 F0 H0 F H σ S _ fun vs F1 H1 k1 S1 r1 => ?_
      obtain ⟨v', r', rfl, e1, e2⟩ := r1
      cases e1; cases e2
      refine ⟨n a, rfl, by omega, by omega, k _ F1 H1 k1 S1 ?_⟩
      show Pw.Wl K F1 _ ((rangeI 0 (n a).toNat).map eI)
      rw [rangeI_map]
      exact Pw.wl_range
    · rw [R.need, if_neg hn]
      trivial
  | ex x => exact fun F0 H0 F H σ S Q q => h F0 H0 F H σ S _ q
  | no => trivial
theorem xi_list {e : α → Dt} {m : R (List α)} (h : Xp P w K W eX te env m (eL e)) : Xi P w K W eX (iList K te) env m e := by
  cases m with
  | ok xs => exact ip_list h
  | ex x => exact fun F0 H0 F H σ S Q q => h F0 H0 F H σ S _ q
  | no => trivial
theorem xi_tup {e : α → Dt} {m : R (List α)} (h : Xp P w K W eX te env m (eT e)) : Xi P w K W eX (iTup K te) env m e := by
  cases m with
  | ok xs => exact ip_tup h
  | ex x => exact fun F0 H0 F H σ S Q q => h F0 H0 F H σ S _ q
  | no => trivial
end
end Mw

set_option maxHeartbeats 1000000
/-! ### typed operations; defs -/
namespace Mw
open PySem PySem.Spec PyProof.Rows L2 Qw
open Evl hiding ea_cons
open Pw (Dt Rp RpL Wk R2d R1d RLd RLn Kq KqL none_sub spX2 get_set set_same set_ne rangeD rangeD_len py pyL fl flatD)
section
variable {P : Program} {w : World} {K : PySem.W.Frag} {W : WX} {eX : En} {α β γ δ σ σ' τ ρ : Type} {env env1 env2 : En} {ta tb te tc : TE} {tt tu : TT} {tA tr : TA} {wi : TI} {r : R2} {g : TG}
theorem r2_is {d e z z' : Dt} (h : R2d K r d e z) (q : z = z') : R2d K r d e z' := q ▸ h
theorem rl_is {rr : List V → Hp → VK → Prop} {ds : List Dt} {z z' : Dt} (h : RLd K rr ds z) (q : z = z') : RLd K rr ds z' := q ▸ h
theorem rm_v {d e : Dt} {c : γ} {z : γ → Dt} (h : R2d K r d e (z c)) : R2m K r d e (.ok c) z := h
theorem rm_need {d e : Dt} {c : Prop} [Decidable c] {m : R γ} {z : γ → Dt} (h : c → R2m K r d e m z) : R2m K r d e (R.need c m) z := by
  unfold R.need
  split
  · exact h (by assumption)
  · trivial
/-! indexes -/
def ixR (xs : List α) (i : Int) : R α := match (ixN xs.length i).bind fun j => xs[j]? with
  | some a => .ok a
  | none => .no
theorem ixR_ok {xs : List α} {i : Int} {j : Nat} {a : α} (hi : i = (j : Int)) (h : xs[j]? = some a) : ixR xs i = .ok a := by
  have hl := (List.getElem?_eq_some_iff.mp h).1
  unfold ixR
  rw [hi, Pw.ixN_at (by omega) (by omega)]
  simp [h]
theorem ixR_nat {xs : List α} {j : Nat} {a : α} (h : xs[j]? = some a) : ixR xs (j : Int) = .ok a := ixR_ok rfl h
theorem ixR_lt {xs : List α} {i : Int} (d : α) (h0 : 0 ≤ i) (h : i < xs.length) : ixR xs i = .ok (xs.getD i.toNat d) := ixR_ok (j := i.toNat) (by omega) (Pw.itemD d (by omega))
theorem ixR_last {xs : List α} {a : α} : ixR (xs ++ [a]) (-1) = .ok a := by
  unfold ixR ixN
  rw [if_neg (by omega), if_pos (by simp; omega)]
  have e : (-1 + ((xs ++ [a]).length : Int)).toNat = xs.length := by simp; omega
  show (match (xs ++ [a])[(-1 + ((xs ++ [a]).length : Int)).toNat]? with | some a => R.ok a | none => R.no) = _
  rw [e]
  simp
theorem rm_ixL {e : α → Dt} {xs : List α} {i : Int} : R2m K (rIxL K) (eL e xs) (.int i) (ixR xs i) e := by
  unfold ixR
  cases h : ixN xs.length i with
  | none => trivial
  | some j =>
    show R2m K _ _ _ (match xs[j]? with | some a => .ok a | none => .no) e
    cases h2 : xs[j]? with
    | none => trivial
    | some a => exact Pw.r2_ixL (by rw [List.length_map]; exact h) (by rw [List.getElem?_map, h2]; rfl)
theorem rm_ixT {e : α → Dt} {xs : List α} {i : Int} : R2m K (rIxT K) (eT e xs) (.int i) (ixR xs i) e := by
  unfold ixR
  cases h : ixN xs.length i with
  | none => trivial
  | some j =>
    show R2m K _ _ _ (match xs[j]? with | some a => .ok a | none => .no) e
    cases h2 : xs[j]? with
    | none => trivial
    | some a => exact Pw.r2_ixT (by rw [List.length_map]; exact h) (by rw [List.getElem?_map, h2]; rfl)
/-- a list or tuple whose items are known one by one -/
theorem r2_ixTn {ds : List Dt} {z : Dt} (j : Nat) (h : ds[j]? = some z) : R2d K (rIxT K) (.tup ds) (.int (j : Int)) z := Pw.r2_ixT (Pw.ixN_at (by omega) (by have := (List.getElem?_eq_some_iff.mp h).1; omega)) (by simpa using h)
theorem r2_ixLn {ds : List Dt} {z : Dt} (j : Nat) (h : ds[j]? = some z) : R2d K (rIxL K) (.lst ds) (.int (j : Int)) z := Pw.r2_ixL (Pw.ixN_at (by omega) (by have := (List.getElem?_eq_some_iff.mp h).1; omega)) (by simpa using h)
/-! whole numbers -/
def modR (i j : Int) : R Int := R.need (0 < j) (.ok (i % j))
def divR (i j : Int) : R Int := R.need (0 < j ∧ j < 1073741824) (.ok (i / j))
def mulR (i j : Int) : R Int := R.need ((-(2 ^ 64) < i ∧ i < 2 ^ 64) ∨ (-(2 ^ 64) < j ∧ j < 2 ^ 64)) (.ok (i * j))
def shlR (i j : Int) : R Int := R.need (0 ≤ j ∧ j ≤ 1000000 ∧ i.natAbs < 2 ^ 64) (.ok (i * 2 ^ j.toNat))
def shrR (i j : Int) : R Int := R.need (0 ≤ j) (.ok (i / 2 ^ j.toNat))
theorem rm_mod {i j : Int} : R2m K (rI (fun _ j => 0 < j) fun i j => .int (i % j)) (.int i) (.int j) (modR i j) eI := rm_need fun h => Pw.r2_I h
theorem rm_div {i j : Int} : R2m K (rI CDiv fun i j => .int (i / j)) (.int i) (.int j) (divR i j) eI := rm_need fun h => Pw.r2_I h
theorem rm_mul {i j : Int} : R2m K (rI CMul fun i j => .int (i * j)) (.int i) (.int j) (mulR i j) eI := rm_need fun h => Pw.r2_I h
theorem rm_shl {i j : Int} : R2m K (rI CPow fun i j => .int (i * 2 ^ j.toNat)) (.int i) (.int j) (shlR i j) eI := rm_need fun h => rm_v (Pw.r2_I (g := fun i j => i * 2 ^ j.toNat) (show CPow i j from h))
theorem rm_shr {i j : Int} : R2m K (rI (fun _ j => 0 ≤ j) fun i j => .int (i / 2 ^ j.toNat)) (.int i) (.int j) (shrR i j) eI := rm_need fun h => rm_v (Pw.r2_I (C := fun _ j => 0 ≤ j) (g := fun i j => i / 2 ^ j.toNat) h)
/-! sequences -/
def catR (xs ys : List α) : R (List α) := R.need (xs.length + ys.length ≤ 100000) (.ok (xs ++ ys))
theorem catR_ok {xs ys : List α} (h : xs.length + ys.length ≤ 100000) : catR xs ys = .ok (xs ++ ys) := R.need_pos h
theorem rm_catL {e : α → Dt} {xs ys : List α} : R2m K (rCatR K) (eL e xs) (eL e ys) (catR xs ys) (eL e) := rm_need fun h => by
  show R2d K _ _ _ (.lst ((xs ++ ys).map e))
  rw [List.map_append]
  exact r2_cat (by simpa using h)
theorem rm_catT {e : α → Dt} {xs ys : List α} : R2m K (rCatA K) (eT e xs) (eT e ys) (catR xs ys) (eT e) := rm_need fun h => by
  show R2d K _ _ _ (.tup ((xs ++ ys).map e))
  rw [List.map_append]
  exact r2_catT (by simpa using h)
def repR (xs : List α) (k : Int) : R (List α) := R.need (xs ≠ [] ∧ 0 ≤ k ∧ k ≤ 1000 ∧ xs.length ≤ 1000) (.ok (List.replicate k.toNat xs).flatten)
instance {xs : List α} {k : Int} : Decidable (xs ≠ [] ∧ 0 ≤ k ∧ k ≤ 1000 ∧ xs.length ≤ 1000) := by
  cases xs with
  | nil => exact isFalse fun h => h.1 rfl
  | cons a xs =>
    by_cases h : 0 ≤ k ∧ k ≤ 1000 ∧ (a :: xs).length ≤ 1000
    · exact isTrue ⟨by simp, h⟩
    · exact isFalse fun z => h z.2
def repTR (xs : List α) (k : Int) : R (List α) := R.need (0 < xs.length ∧ 0 ≤ k ∧ k ≤ 1000 ∧ xs.length ≤ 1000) (.ok (List.replicate k.toNat xs).flatten)
theorem repTR_1 {a : α} {k : Int} (h : 0 ≤ k ∧ k ≤ 1000) : repTR [a] k = .ok (List.replicate k.toNat a) := by
  unfold repTR
  rw [R.need_pos ⟨by simp, h.1, h.2, by simp⟩]
  congr 1
  induction k.toNat with
  | zero => rfl
  | succ n ih => rw [List.replicate_succ, List.flatten_cons, ih, List.replicate_succ]; rfl
theorem r2_repA {ds : List Dt} {k : Int} (h : 0 < ds.length ∧ 0 ≤ k ∧ k ≤ 1000 ∧ ds.length ≤ 1000) : R2d K (rRepA K) (.tup ds) (.int k) (.tup (List.replicate k.toNat ds).flatten) := fun F H x y s r1 r2 Q q => by
  obtain ⟨a, us, rfl, g1, e1⟩ := r1
  cases r2
  have hl := e1.length
  refine ⟨a, k, us, rfl, rfl, ex_t s g1, fun z => ?_, h.2.1, h.2.2.1, by omega, fun z => ?_, fun z p hp => ?_⟩
  · rw [z] at hl
    have h1 := h.1
    simp at hl
    rw [hl] at h1
    simp at h1
  · subst z
    have e : (List.replicate (1 : Int).toNat ds).flatten = ds := by simp
    rw [e] at q
    exact q _ F H (Wk.refl s) ⟨a, us, rfl, g1, e1⟩
  · have k1 : Wk F H (L2.upd F p (.tup (List.replicate k.toNat us).flatten)) (L2.upd H p (.tup (List.replicate k.toNat us).flatten)) := Wk.new s _ hp
    refine q (.ref p) _ _ k1 ⟨p, _, rfl, SqT.of upd_same, ?_⟩
    have e2 := e1.mono k1.f
    clear k1
    revert e2
    generalize L2.upd F p (.tup (List.replicate k.toNat us).flatten) = F2
    intro e2
    induction k.toNat with
    | zero => exact rfl
    | succ n ih => rw [List.replicate_succ, List.flatten_cons, List.replicate_succ, List.flatten_cons]; exact e2.append ih
theorem map_repl {e : α → Dt} {xs : List α} {n : Nat} : ((List.replicate n xs).flatten).map e = (List.replicate n (xs.map e)).flatten := by
  induction n with
  | zero => rfl
  | succ n ih => rw [List.replicate_succ, List.flatten_cons, List.map_append, ih, List.replicate_succ, List.flatten_cons]
theorem rm_repA {e : α → Dt} {xs : List α} {k : Int} : R2m K (rRepA K) (eT e xs) (.int k) (repTR xs k) (eT e) := rm_need fun h => by
  show R2d K _ _ _ (.tup (((List.replicate k.toNat xs).flatten).map e))
  rw [map_repl]
  exact r2_repA (by simpa using h)
/-! slices -/
def cutR (xs : List α) (lo hi : Option Int) : List α := (xs.drop (HT.sIx xs.length 0 lo)).take (HT.sIx xs.length xs.length hi - HT.sIx xs.length 0 lo)
theorem cutR_map {e : α → Dt} {xs : List α} {lo hi : Option Int} : (cutR xs lo hi).map e = Qw.cutD (xs.map e) lo hi := by
  unfold cutR Qw.cutD
  rw [List.map_take, List.map_drop, List.length_map]
theorem ep_cutL {e : α → Dt} {xs : List α} {tl th : TO} {lo hi : Option Int} (h : Ep P w K te env (eL e xs)) (h1 : Op P w K tl env lo) (h2 : Op P w K th env hi) : EpO P w K (tSl (rSlL K) te tl th) env (oL e (cutR xs lo hi)) := by
  show EpO P w K _ env (.lst ((cutR xs lo hi).map e))
  rw [cutR_map]
  exact po_n (np_slL h h1 h2)
theorem ep_cutT {e : α → Dt} {xs : List α} {tl th : TO} {lo hi : Option Int} (h : Ep P w K te env (eT e xs)) (h1 : Op P w K tl env lo) (h2 : Op P w K th env hi) : Ep P w K (tSl (rSlA K) te tl th) env (eT e (cutR xs lo hi)) := by
  show Ep P w K _ env (.tup ((cutR xs lo hi).map e))
  rw [cutR_map]
  exact ep_slT h h1 h2
theorem cutR_from {xs : List α} {k : Nat} : cutR xs (some (k : Int)) none = xs.drop k := by
  unfold cutR
  rw [HT.sIx_nat, HT.sIx_none]
  by_cases h : k ≤ xs.length
  · rw [Nat.min_eq_left h, List.take_of_length_le (by simp)]
  · rw [Nat.min_eq_right (by omega), Nat.sub_self, List.take_zero, List.drop_of_length_le (by omega)]
theorem cutR_to {xs : List α} {k : Nat} : cutR xs none (some (k : Int)) = xs.take k := by
  unfold cutR
  rw [HT.sIx_nat, HT.sIx_none]
  by_cases h : k ≤ xs.length
  · rw [Nat.min_eq_left h]
    rfl
  · rw [Nat.min_eq_right (by omega), List.drop_zero, List.take_of_length_le (by omega), List.take_of_length_le (by omega)]
/-! == over data -/
structure PyE (n : Nat) (e : α → Dt) : Prop where
  h : ∃ p : α → PyData, (∀ a, py (e a) = some (p a)) ∧ (∀ a, (p a).canLay0 = true) ∧ (∀ a, (p a).depth ≤ n) ∧ ∀ a b, PyData.eqv (p a) (p b) = true ↔ a = b
theorem pyE_int : PyE 0 eI := ⟨PyData.int, fun _ => rfl, fun _ => rfl, fun _ => Nat.le_refl _, fun a b => by simp [PyData.eqv]⟩
theorem pyE_bool : PyE 0 eB := ⟨PyData.bool, fun _ => rfl, fun _ => rfl, fun _ => Nat.le_refl _, fun a b => by cases a <;> cases b <;> simp [PyData.eqv]⟩
theorem pyE_unit : PyE 0 eU := ⟨fun _ => PyData.none, fun _ => rfl, fun _ => rfl, fun _ => Nat.le_refl _, fun a b => by simp [PyData.eqv]⟩
theorem pyL_map {e : α → Dt} {p : α → PyData} (h : ∀ a, py (e a) = some (p a)) : ∀ xs : List α, pyL (xs.map e) = some (xs.map p)
  | [] => rfl
  | a :: xs => by
    show (match py (e a), pyL (xs.map e) with | some p, some ps => some (p :: ps) | _, _ => none) = _
    rw [h a, pyL_map h xs]
    rfl
theorem layAll_map {p : α → PyData} (h : ∀ a, (p a).canLay0 = true) : ∀ xs : List α, PyData.canLayAll0 (xs.map p) = true
  | [] => rfl
  | a :: xs => by
    show (PyData.canLay0 (p a) && PyData.canLayAll0 (xs.map p)) = true
    rw [h a, layAll_map h xs]
    rfl
theorem depthAll_map {p : α → PyData} {n : Nat} (h : ∀ a, (p a).depth ≤ n) : ∀ xs : List α, PyData.depthAll (xs.map p) ≤ n
  | [] => Nat.zero_le _
  | a :: xs => by
    show max (PyData.depth (p a)) (PyData.depthAll (xs.map p)) ≤ n
    have := depthAll_map h xs
    have := h a
    omega
theorem eqvAll_map {p : α → PyData} (h : ∀ a b, PyData.eqv (p a) (p b) = true ↔ a = b) : ∀ xs ys : List α, PyData.eqvAll (xs.map p) (ys.map p) = true ↔ xs = ys
  | [], [] => by simp [PyData.eqvAll]
  | [], _ :: _ => by simp [PyData.eqvAll]
  | _ :: _, [] => by simp [PyData.eqvAll]
  | a :: xs, b :: ys => by
    show (PyData.eqv (p a) (p b) && PyData.eqvAll (xs.map p) (ys.map p)) = true ↔ _
    rw [Bool.and_eq_true, h a b, eqvAll_map h xs ys]
    simp
theorem pyE_list {n : Nat} {e : α → Dt} (h : PyE n e) : PyE (n + 1) (eL e) := by
  obtain ⟨p, h1, h2, h3, h4⟩ := h
  refine ⟨fun xs => .list (xs.map p), fun xs => ?_, fun xs => layAll_map h2 xs, fun xs => ?_, fun a b => ?_⟩
  · show (pyL (xs.map e)).map PyData.list = _
    rw [pyL_map h1]
    rfl
  · show PyData.depthAll (xs.map p) + 1 ≤ n + 1
    have := depthAll_map h3 xs
    omega
  · show PyData.eqvAll _ _ = true ↔ _
    exact eqvAll_map h4 a b
theorem pyE_tup {n : Nat} {e : α → Dt} (h : PyE n e) : PyE (n + 1) (eT e) := by
  obtain ⟨p, h1, h2, h3, h4⟩ := h
  refine ⟨fun xs => .tuple (xs.map p), fun xs => ?_, fun xs => layAll_map h2 xs, fun xs => ?_, fun a b => ?_⟩
  · show (pyL (xs.map e)).map PyData.tuple = _
    rw [pyL_map h1]
    rfl
  · show PyData.depthAll (xs.map p) + 1 ≤ n + 1
    have := depthAll_map h3 xs
    omega
  · show PyData.eqvAll _ _ = true ↔ _
    exact eqvAll_map h4 a b
theorem pyE_p2 {n m : Nat} {e1 : α → Dt} {e2 : β → Dt} (h1 : PyE n e1) (h2 : PyE m e2) : PyE (max n m + 1) (eP2 e1 e2) := by
  obtain ⟨p, a1, a2, a3, a4⟩ := h1
  obtain ⟨q, b1, b2, b3, b4⟩ := h2
  refine ⟨fun x => .tuple [p x.1, q x.2], fun x => ?_, fun x => ?_, fun x => ?_, fun a b => ?_⟩
  · show (match py (e1 x.1), (match py (e2 x.2), (some [] : Option (List PyData)) with | some p, some ps => some (p :: ps) | _, _ => none) with | some p, some ps => some (p :: ps) | _, _ => none).map PyData.tuple = _
    rw [a1, b1]
    rfl
  · show ((p x.1).canLay0 && ((q x.2).canLay0 && true)) = true
    rw [a2, b2]
    rfl
  · show max (p x.1).depth (max (q x.2).depth 0) + 1 ≤ _
    have := a3 x.1
    have := b3 x.2
    omega
  · show (PyData.eqv (p a.1) (p b.1) && (PyData.eqv (q a.2) (q b.2) && true)) = true ↔ _
    rw [Bool.and_true, Bool.and_eq_true, a4, b4]
    exact ⟨fun h => Prod.ext h.1 h.2, fun h => by rw [h]; exact ⟨rfl, rfl⟩⟩
theorem pyE_opt {n : Nat} {e : α → Dt} (h : PyE n e) (hn : ∀ a, e a ≠ .non) : PyE n (eO e) := by
  obtain ⟨p, h1, h2, h3, h4⟩ := h
  have hp : ∀ a, p a ≠ .none := fun a z => by
    have := h1 a
    rw [z] at this
    cases q : e a with
    | non => exact hn a q
    | tup ds => rw [q] at this; simp [py] at this
    | lst ds => rw [q] at this; simp [py] at this
    | _ => rw [q] at this; simp [py] at this
  refine ⟨fun x => match x with | none => .none | some a => p a, fun x => ?_, fun x => ?_, fun x => ?_, fun a b => ?_⟩
  · cases x with
    | none => rfl
    | some a => exact h1 a
  · cases x with
    | none => rfl
    | some a => exact h2 a
  · cases x with
    | none => exact Nat.zero_le _
    | some a => exact h3 a
  · cases a with
    | none =>
      cases b with
      | none => simp [PyData.eqv]
      | some b =>
        have := hp b
        simp only [reduceCtorEq, iff_false, Bool.not_eq_true]
        cases q : p b <;> first | exact absurd q this | rfl
    | some a =>
      cases b with
      | none =>
        have := hp a
        simp only [reduceCtorEq, iff_false, Bool.not_eq_true]
        cases q : p a <;> first | exact absurd q this | rfl
      | some b =>
        show PyData.eqv (p a) (p b) = true ↔ _
        rw [h4]
        simp
theorem r2_eqE [DecidableEq α] {n : Nat} {e : α → Dt} (h : PyE n e) (hn : n ≤ 64) {a b : α} : R2d K (rEqD K) (e a) (e b) (.bl (decide (a = b))) := by
  obtain ⟨p, h1, h2, h3, h4⟩ := h
  have := Pw.r2_eqD (K := K) (h1 a) (h1 b) (by unfold SeqAt.shaped; rw [h2, decide_eq_true (Nat.le_trans (h3 a) hn)]; rfl) (by unfold SeqAt.shaped; rw [h2, decide_eq_true (Nat.le_trans (h3 b) hn)]; rfl)
  refine r2_is this ?_
  congr 1
  rw [Bool.eq_iff_iff, h4, decide_eq_true_eq]
theorem r2_neE [DecidableEq α] {n : Nat} {e : α → Dt} (h : PyE n e) (hn : n ≤ 64) {a b : α} : R2d K (rNeD K) (e a) (e b) (.bl (!decide (a = b))) := by
  obtain ⟨p, h1, h2, h3, h4⟩ := h
  have := Pw.r2_neD (K := K) (h1 a) (h1 b) (by unfold SeqAt.shaped; rw [h2, decide_eq_true (Nat.le_trans (h3 a) hn)]; rfl) (by unfold SeqAt.shaped; rw [h2, decide_eq_true (Nat.le_trans (h3 b) hn)]; rfl)
  refine r2_is this ?_
  congr 2
  rw [Bool.eq_iff_iff, h4, decide_eq_true_eq]
/-! None -/
theorem eI_ne (i : Int) : eI i ≠ .non := fun h => nomatch h
theorem eT_ne {e : α → Dt} (xs : List α) : eT e xs ≠ .non := fun h => nomatch h
/-! what a def is -/
def outD (d : β → Dt) : β → Out := fun b => .rt (d b)
def outO (u : β → Ow) : β → Out := fun b => .ro (u b)
theorem outD_ok {d : β → Dt} : OutOk (outD d) := fun b => ⟨rfl, (fun _ z => nomatch z), (fun _ z => nomatch z)⟩
theorem outO_ok {u : β → Ow} : OutOk (outO u) := fun b => ⟨rfl, (fun _ z => nomatch z), (fun _ z => nomatch z)⟩
abbrev WD (E : XK) : WX := fun cls d _ H => E cls d H
theorem does_d {E : XK} {s : TS} {d : β → Dt} {env : En} {m : R (Ctl σ τ β)} {eL : τ → En} {eN : σ → En} {rr : Rs} (h : Sx P w K (WD E) eX eL (outD d) s env m eN) (hr : Got K m.fin (fun b => .d (d b)) rr) : Does P w K E s env rr := by
  cases m with
  | ok c =>
    cases c with
    | rt b => rw [show rr = .d (d b) from hr]; exact .inl h
    | nx v => exact False.elim hr
    | ct v => exact False.elim hr
    | bk v => exact False.elim hr
  | ex x => rw [show rr = .x (x.xn K) from hr]; exact ⟨eX, h⟩
  | no => exact False.elim hr
theorem does_o {E : XK} {s : TS} {u : β → Ow} {env : En} {m : R (Ctl σ τ β)} {eL : τ → En} {eN : σ → En} {rr : Rs} (h : Sx P w K (WD E) eX eL (outO u) s env m eN) (hr : Got K m.fin (fun b => .o (u b)) rr) : Does P w K E s env rr := by
  cases m with
  | ok c =>
    cases c with
    | rt b => rw [show rr = .o (u b) from hr]; exact h
    | nx v => exact False.elim hr
    | ct v => exact False.elim hr
    | bk v => exact False.elim hr
  | ex x => rw [show rr = .x (x.xn K) from hr]; exact ⟨eX, h⟩
  | no => exact False.elim hr
theorem does_u {E : XK} {s : TS} {env : En} {m : R (Ctl σ τ Unit)} {eL : τ → En} {eN : σ → En} {rr : Rs} (h : Sx P w K (WD E) eX eL (outD eU) s env m eN) (hr : Got K m.finU (fun b => .d (eU b)) rr) : Does P w K E s env rr := by
  cases m with
  | ok c =>
    cases c with
    | rt b => rw [show rr = .d (eU b) from hr]; exact .inl h
    | nx v => rw [show rr = .d .non from hr]; exact .inr ⟨rfl, _, h⟩
    | ct v => exact False.elim hr
    | bk v => exact False.elim hr
  | ex x => rw [show rr = .x (x.xn K) from hr]; exact ⟨eX, h⟩
  | no => exact False.elim hr
/-- a body that changes its first argument -/
theorem run_m {N : List Str} {vs : List V} {H : Hp} {Q : VK} {E : XK} {s : TS} {us : δ → Ow} {ea : α → List Dt} {m : δ → α → R (β × δ)} {er : β → Dt} {body : δ → α → R (Ctl σ τ (β × δ))} {eL : δ → α → Addr → τ → En} {eN : δ → α → Addr → σ → En} {en : Addr → δ → En} {eX : En}
    (h : spM P w K (RM us ea m er) vs H Q E) (hm : ∀ v a, m v a = (body v a).fin) (he : ∀ p v, ∃ r, en p v = .ow (some p) (us v) :: r)
    (hb : ∀ v a p, Sx P w K (WD E) eX (eL v a p) (fun q => .rte (er q.1) (en p q.2)) s (Sl.ow (some p) (us v) :: ((ea a).map Sl.d ++ List.replicate (N.length - ((ea a).length + 1)) Sl.u)) (body v a) (eN v a p)) : s { nx := fun _ H' => Q .non H', rt := Q } (L2.start N vs) H := by
  obtain ⟨F, p, vs', o, u, ds, d, u', rfl, e, hF, hp, ho, rp, ⟨v, a, rfl, rfl, hq⟩, q⟩ := h
  have hb := hb v a p
  rw [hm] at hq
  cases hbd : body v a with
  | ok c =>
    rw [hbd] at hq hb
    cases c with
    | rt b =>
      obtain ⟨rfl, rfl⟩ := hq
      have S0 := Sm.startO (P := P) (w := w) (K := K) (N := N) e hF hp ho rp
      refine hb F (hide H p) F H _ _ S0 fun v' F' H' σ' e' S' r' => ?_
      obtain ⟨r, hen⟩ := he p b.2
      obtain ⟨p2, o2, g0, g1, g2, g3, g4, g5⟩ := S'.own (i := 0) (t := some p) (u := us b.2) (by rw [hen]; rfl)
      have : p2 = p := g1 p rfl
      subst this
      refine q v' F' H' o2 e' S'.sub (fun a' z ne h => S'.g.h a' z (by rw [hide_ne ne]; exact h)) (fun a' z h h' => ?_) (fun a' h => ?_) g4 g5 r'
      · by_cases ze : a' = p2
        · subst ze
          exact g2
        · exact S'.g.n a' z (by rw [hide_ne ze]; exact h) h'
      · by_cases ze : a' = p2
        · subst ze
          rw [g4] at h
          cases h
        · cases z : H a' with
          | none => rfl
          | some o3 =>
            have := S'.g.h a' o3 (by rw [hide_ne ze]; exact z)
            rw [this] at h
            cases h
    | nx b => exact False.elim hq
    | ct b => exact False.elim hq
    | bk b => exact False.elim hq
  | ex x => rw [hbd] at hq; exact False.elim hq
  | no => rw [hbd] at hq; exact False.elim hq
theorem spM_len {us : δ → Ow} {ea : α → List Dt} {m : δ → α → R (β × δ)} {er : β → Dt} {n : Nat} (hl : ∀ a, (ea a).length + 1 = n) (vs : List V) (H : Hp) (Q : VK) (E : XK) (h : spM P w K (RM us ea m er) vs H Q E) : vs.length = n := by
  obtain ⟨F, p, vs', o, u, ds, d, u', rfl, e, hF, hp, ho, rp, ⟨v, a, rfl, rfl, hq⟩, q⟩ := h
  rw [List.length_cons, ← rp.length]
  exact hl a
end
end Mw

set_option maxHeartbeats 1000000
/-! ### lending what is one's own; the draws -/
namespace Mw
open PySem PySem.Spec PyProof.Rows L2 Qw
open Evl hiding ea_cons
open Pw (Dt Rp RpL Wk R2d R1d RLd RLn Kq KqL none_sub spX2 get_set set_same set_ne rangeD rangeD_len py pyL fl flatD)
section
variable {P : Program} {w : World} {K : PySem.W.Frag} {W : WX} {eX : En} {α β γ δ σ σ' τ ρ : Type} {env env1 env2 : En} {ta tb te tc : TE} {tt tu : TT} {tA tr : TA} {wi : TI} {r : R2} {g : TG}
theorem wk_lend {F H F' H' : Hp} {p : Addr} {o : HO} (k : Wk (L2.upd F p o) H F' H') (hF : F p = none) : Wk F H (hide F' p) H' :=
  ⟨fun a u e => by
    have ne : a ≠ p := fun z => by rw [z, hF] at e; cases e
    rw [hide_ne ne]
    exact k.f a u (by rw [upd_ne ne]; exact e), k.h, fun a u e => k.s a u (hide_ex a u e), fun a u h e => by
    by_cases z : a = p
    · subst z
      exact hide_same
    · rw [hide_ne z]
      exact k.n a u h (by rw [upd_ne z]; exact e)⟩
theorem ep_lend {i : Nat} {t : Option Addr} {u : Ow} {dd d : Dt} (hi : env[i]? = some (.ow t u)) (hd : u.dt = some dd) (h : Ep P w K te (env.set i (.d dd)) d) (f : flatD d = true) : Ep P w K te env d := fun F0 H0 F H σ S Q q => by
  obtain ⟨p, o, h1, h2, h3, h4, h5, S'⟩ := S.freeze hi hd
  refine h F0 H0 _ H σ S' _ fun v F' H' k rp => ?_
  exact q v (hide F' p) H' (wk_lend k h2) (rp.flat f)
theorem tp_lend {i : Nat} {t : Option Addr} {u : Ow} {dd : Dt} {b : Bool} (hi : env[i]? = some (.ow t u)) (hd : u.dt = some dd) (h : Tp P w K tt (env.set i (.d dd)) b) : Tp P w K tt env b := fun F0 H0 F H σ S Q q => by
  obtain ⟨p, o, h1, h2, h3, h4, h5, S'⟩ := S.freeze hi hd
  exact h F0 H0 _ H σ S' _ fun F' H' k => q (hide F' p) H' (wk_lend k h2)
theorem po_lend {i : Nat} {t : Option Addr} {u : Ow} {dd : Dt} {ds : List Dt} (hi : env[i]? = some (.ow t u)) (hd : u.dt = some dd) (h : EpO P w K te (env.set i (.d dd)) (.lst ds)) (f : ds.all flatD = true) : EpO P w K te env (.lst ds) := fun F0 H0 F H σ S Q q => by
  obtain ⟨p, o, h1, h2, h3, h4, h5, S'⟩ := S.freeze hi hd
  refine h F0 H0 _ H σ S' _ fun p' o' F' H' k n1 n2 h1' ⟨vs, e, rp⟩ => ?_
  refine q p' o' (hide F' p) H' (wk_lend k h2) n1 ?_ h1' ⟨vs, e, Qw.RpL.flatAll rp f⟩
  by_cases z : p' = p
  · subst z
    exact hide_same
  · rw [hide_ne z]
    exact n2
/-- x is read by te, which gives what is flat -/
theorem xp_lend {da : α → Dt} {m : R α} (i : Nat) {t : Option Addr} {u : Ow} {dd : Dt} (hi : env[i]? = some (.ow t u)) (hd : u.dt = some dd) (h : ∀ eX', Xp P w K W eX' te (env.set i (.d dd)) m.nox da) (f : ∀ a, flatD (da a) = true) : Xp P w K W eX te env m.nox da := by
  cases m with
  | ok a => exact ep_lend hi hd (h eX) (f a)
  | ex x => trivial
  | no => trivial
theorem xo_lend {e : α → Dt} {m : R (List α)} (i : Nat) {t : Option Addr} {u : Ow} {dd : Dt} (hi : env[i]? = some (.ow t u)) (hd : u.dt = some dd) (h : Xo P w K W eX te (env.set i (.d dd)) m.nox (oL e)) (f : ∀ a, flatD (e a) = true) : Xo P w K W eX te env m.nox (oL e) := by
  cases m with
  | ok xs => exact po_lend hi hd h (by rw [List.all_map]; exact List.all_eq_true.mpr fun a _ => f a)
  | ex x => trivial
  | no => trivial
theorem noOw_of {vs : List Nat} {e : En} (h : (vs.all fun i => !isOw e[i]?) = true) : ∀ i, vs.contains i = true → isOw e[i]? = false := fun i hi => by
  have := List.all_eq_true.mp h i (List.contains_iff_mem.mp hi)
  simpa using this
/-! own lists, read -/
theorem xp_lenO {i : Nat} {t : Option Addr} {e : α → Dt} {xs : List α} (hi : env[i]? = some (.ow t (oL e xs))) : Ep P w K (tCB (rLenS K) (tCons (tVar i) tNil)) env (eI (xs.length : Int)) := by
  have := ep_lenO (P := P) (w := w) (K := K) hi
  rwa [List.length_map] at this
theorem xp_ixO {i : Nat} {t : Option Addr} {e : α → Dt} {xs : List α} {m : R Int} (hi : env[i]? = some (.ow t (oL e xs))) (hk : Xp P w K W eX tb env m eI) : Xp P w K W eX (tOp (rIxL K) (tVar i) tb) env (m.bind fun k => ixR xs k) e := by
  cases m with
  | ok k =>
    show Xp P w K W eX _ env (ixR xs k) e
    unfold ixR
    cases h : ixN xs.length k with
    | none => trivial
    | some j =>
      show Xp P w K W eX _ env (match xs[j]? with | some a => .ok a | none => .no) e
      cases h2 : xs[j]? with
      | none => trivial
      | some a => exact ep_ixO hi hk (by rw [List.length_map]; exact h) (by rw [List.getElem?_map, h2]; rfl)
  | ex x =>
    refine fun F0 H0 F H σ S Q q => ?_
    obtain ⟨p, o, e1, _⟩ := S.own hi
    exact ⟨_, e1, hk F0 H0 F H σ S _ q⟩
  | no => trivial
def setR (xs : List α) (k : Int) (a : α) : R (List α) := match ixN xs.length k with
  | some j => .ok (xs.set j a)
  | none => .no
theorem setR_ok {xs : List α} {k : Int} {a : α} (h0 : 0 ≤ k) (h : k < xs.length) : setR xs k a = .ok (xs.set k.toNat a) := by
  unfold setR
  rw [Pw.ixN_at h0 h]
theorem ixR_ne {xs : List α} {i : Int} : ∀ x, ixR xs i ≠ .ex x := fun x h => by
  unfold ixR at h
  split at h <;> cases h
theorem sx_setL {i : Nat} {t : Option Addr} {e : α → Dt} {xs : List α} {m : R α} {n : R Int} {k : List α → R (Ctl σ τ ρ)} {eL : τ → En} {out : ρ → Out} {s2 : TS} {eN : σ → En} (hi : env[i]? = some (.ow t (oL e xs))) (h : Xp P w K W eX te env m e) (hn : Xp P w K W eX tb env n eI) (hk : ∀ ys, Sx P w K W eX eL out s2 (env.set i (.ow t (oL e ys))) (k ys) eN) : Sx P w K W eX eL out (tSeq (tAsg te (gSub (tVar i) tb rSetL)) s2) env (m.bind fun a => n.bind fun j => (setR xs j a).bind k) eN := by
  cases m with
  | ok a =>
    cases n with
    | ok j =>
      show Sx P w K W eX eL out _ env ((setR xs j a).bind k) eN
      unfold setR
      cases h2 : ixN xs.length j with
      | none => trivial
      | some q =>
        show Sx P w K W eX eL out _ env (k (xs.set q a)) eN
        have hk := hk (xs.set q a)
        rw [show oL e (xs.set q a) = Ow.lst ((xs.map e).set q (e a)) by show Ow.lst _ = _; rw [List.map_set]] at hk
        exact sx_seqE (se_setL (ee_p h) (ee_p hn) hi (by rw [List.length_map]; exact h2)) hk
    | ex x =>
      refine se_seqF (o := .rz W (x.xn K) eX) fun F0 H0 F H σ D S p => h F0 H0 F H σ S _ fun v F1 H1 k1 r => ?_
      obtain ⟨p0, o0, e0, _⟩ := S.own hi
      exact ⟨_, e0, hn F0 H0 F1 H1 σ (S.wk k1) _ fun od F2 H2 e => p od F2 H2 σ (k1.f.trans e)⟩
    | no => trivial
  | ex x => exact se_seqF (se_asgX h)
  | no => trivial
end
/-! the draws of a law -/
structure Dr where
  xs : List Int
  i : Nat
  r : Int
  s : Int
def drO (d : Dr) : Ow := .lst [.lst (d.xs.map .int), .int (d.i : Int), .int d.r, .int d.s]
def drStep (d : Dr) : Dr := if d.r = 0 ∧ d.i < d.xs.length then ⟨d.xs, d.i + 1, if (10 : Int) ^ (18 : Int).toNat ≤ d.xs.getD d.i 0 then d.xs.getD d.i 0 else d.r, (d.s * 48271 + d.xs.getD d.i 0 + 13) % 2147483647⟩ else d
def drV (d : Dr) (n : Int) : Int := if 0 < (drStep d).r then (drStep d).r % n else (((drStep d).s * 69621 + 7) % 2147483629 / 11) % n
def drN (d : Dr) (n : Int) : Dr := if 0 < (drStep d).r then ⟨(drStep d).xs, (drStep d).i, (drStep d).r / n, (drStep d).s⟩ else ⟨(drStep d).xs, (drStep d).i, (drStep d).r, ((drStep d).s * 69621 + 7) % 2147483629⟩
theorem drV_ge (d : Dr) {n : Int} (h : 0 < n) : 0 ≤ drV d n := by
  unfold drV
  split <;> exact Int.emod_nonneg _ (by omega)
theorem drV_lt (d : Dr) {n : Int} (h : 0 < n) : drV d n < n := by
  unfold drV
  split <;> exact Int.emod_lt_of_pos _ h
/-- draws that leave room: limits below 2^30 -/
def drawR (d : Dr) (n : Int) : R (Int × Dr) := R.need (0 < n ∧ n < 1073741824) (.ok (drV d n, drN d n))
theorem drawR_ok {d : Dr} {n : Int} (h0 : 0 < n) (h1 : n < 1073741824) : drawR d n = .ok (drV d n, drN d n) := R.need_pos ⟨h0, h1⟩
end Mw

set_option maxHeartbeats 1000000
/-! ### more rules for gen3 -/
namespace Mw
open PySem PySem.Spec PyProof.Rows L2 Qw
open Evl hiding ea_cons
open Pw (Dt Rp RpL Wk R2d R1d RLd RLn Kq KqL none_sub spX2 get_set set_same set_ne rangeD rangeD_len py pyL fl flatD Wl wl_at tyD isI isB isS isTp isL)
section
variable {P : Program} {w : World} {K : PySem.W.Frag} {W : WX} {eX : En} {α β γ δ σ σ' τ ρ : Type} {env env1 env2 : En} {ta tb te tc : TE} {tt tu : TT} {tA tr : TA} {wi : TI} {r : R2} {g : TG} {en : σ → En} {da : α → Dt} {db : β → Dt} {dz : γ → Dt}
theorem r2_eqB {a b : Bool} : R2d K rEq (.bl a) (.bl b) (.bl (decide (a = b))) := by
  have h := Pw.r2_eq (K := K) (d := .bl a) (e := .bl b) rfl rfl rfl
  refine r2_is h ?_
  congr 1
  cases a <;> cases b <;> decide
theorem r2_neB {a b : Bool} : R2d K rNe (.bl a) (.bl b) (.bl (!decide (a = b))) := by
  have h := Pw.r2_ne (K := K) (d := .bl a) (e := .bl b) rfl rfl rfl
  refine r2_is h ?_
  congr 2
  cases a <;> cases b <;> decide
theorem inV_ints (i : Int) (xs : List Int) : inV (V.int i) (xs.map V.int) = decide (i ∈ xs) := by
  unfold inV
  induction xs with
  | nil => rfl
  | cons a xs ih =>
    rw [List.map_cons, List.any_cons, ih]
    have : eqV (V.int a) (V.int i) = decide (i = a) := by
      simp only [eqV]
      by_cases e : i = a
      · subst e; simp
      · simp [e, Ne.symm e]
    rw [this]
    simp
theorem fl_ints (xs : List Int) : (xs.map Dt.int).map Pw.fl = xs.map V.int := by
  rw [List.map_map]
  rfl
theorem r2_inIL {i : Int} {xs : List Int} : R2d K (rIn K false) (.int i) (eL eI xs) (.bl (decide (i ∈ xs))) := by
  have h := Pw.r2_in (K := K) (neg := false) (d := .int i) (ds := xs.map Dt.int) rfl (by simp [flatD]) rfl (by rw [fl_ints]; simp [flatV])
  refine r2_is h ?_
  rw [fl_ints]
  exact congrArg Dt.bl (inV_ints i xs)
theorem r2_inILn {i : Int} {xs : List Int} : R2d K (rIn K true) (.int i) (eL eI xs) (.bl (!decide (i ∈ xs))) := by
  have h := Pw.r2_in (K := K) (neg := true) (d := .int i) (ds := xs.map Dt.int) rfl (by simp [flatD]) rfl (by rw [fl_ints]; simp [flatV])
  refine r2_is h ?_
  rw [fl_ints]
  exact congrArg (fun b => Dt.bl (!b)) (inV_ints i xs)
theorem r2_inIT {i : Int} {xs : List Int} : R2d K (rIn K false) (.int i) (eT eI xs) (.bl (decide (i ∈ xs))) := by
  have h := Pw.r2_inT (K := K) (neg := false) (d := .int i) (ds := xs.map Dt.int) rfl (by simp [flatD]) rfl (by rw [fl_ints]; simp [flatV])
  refine r2_is h ?_
  rw [fl_ints]
  exact congrArg Dt.bl (inV_ints i xs)
theorem r2_inITn {i : Int} {xs : List Int} : R2d K (rIn K true) (.int i) (eT eI xs) (.bl (!decide (i ∈ xs))) := by
  have h := Pw.r2_inT (K := K) (neg := true) (d := .int i) (ds := xs.map Dt.int) rfl (by simp [flatD]) rfl (by rw [fl_ints]; simp [flatV])
  refine r2_is h ?_
  rw [fl_ints]
  exact congrArg (fun b => Dt.bl (!b)) (inV_ints i xs)
/-! if, and, or -/
theorem ep_ifV {b : Bool} {x y : α} (h : Tp P w K tt env b) (h1 : Ep P w K ta env (da x)) (h2 : Ep P w K tb env (da y)) : Ep P w K (tIf tt ta tb) env (da (if b = true then x else y)) := ep_if h (fun e => by rw [if_pos e]; exact h1) (fun e => by rw [if_neg (by rw [e]; decide)]; exact h2)
theorem xp_if {m : R Bool} {m1 m2 : R α} (h : Xt P w K W eX tt env m) (h1 : Xp P w K W eX ta env m1 da) (h2 : Xp P w K W eX tb env m2 da) : Xp P w K W eX (tIf tt ta tb) env (m.bind fun b => if b = true then m1 else m2) da := by
  cases m with
  | ok b =>
    cases b with
    | true =>
      show Xp P w K W eX _ env m1 da
      cases m1 with
      | ok a => exact ep_if (b := true) h (fun _ => h1) (fun z => nomatch z)
      | ex x => exact fun F0 H0 F H σ S Q q => h F0 H0 F H σ S _ fun F1 H1 k => (show ta σ H1 Q from h1 F0 H0 F1 H1 σ (S.wk k) _ fun od F2 H2 e => q od F2 H2 (k.f.trans e))
      | no => trivial
    | false =>
      show Xp P w K W eX _ env m2 da
      cases m2 with
      | ok a => exact ep_if (b := false) h (fun z => nomatch z) (fun _ => h2)
      | ex x => exact fun F0 H0 F H σ S Q q => h F0 H0 F H σ S _ fun F1 H1 k => (show tb σ H1 Q from h2 F0 H0 F1 H1 σ (S.wk k) _ fun od F2 H2 e => q od F2 H2 (k.f.trans e))
      | no => trivial
  | ex x => exact fun F0 H0 F H σ S Q q => h F0 H0 F H σ S _ q
  | no => trivial
theorem xp_and {m n : R Bool} (h : Xp P w K W eX ta env m eB) (h2 : Xp P w K W eX tb env n eB) : Xp P w K W eX (tAndV ta tb) env (m.bind fun b => if b = true then n else .ok false) eB := by
  cases m with
  | ok b =>
    cases b with
    | true =>
      cases n with
      | ok c => exact ep_and (a := true) h fun _ => h2
      | ex x => exact fun F0 H0 F H σ S Q q => h F0 H0 F H σ S _ fun v F1 H1 k r => ⟨true, r, (show tb σ H1 Q from h2 F0 H0 F1 H1 σ (S.wk k) _ fun od F2 H2 e => q od F2 H2 (k.f.trans e))⟩
      | no => trivial
    | false => exact ep_and (a := false) (b := true) h (fun z => nomatch z)
  | ex x => exact fun F0 H0 F H σ S Q q => h F0 H0 F H σ S _ q
  | no => trivial
theorem xp_or {m n : R Bool} (h : Xp P w K W eX ta env m eB) (h2 : Xp P w K W eX tb env n eB) : Xp P w K W eX (tOrV ta tb) env (m.bind fun b => if b = true then .ok true else n) eB := by
  cases m with
  | ok b =>
    cases b with
    | false =>
      cases n with
      | ok c => exact ep_or (a := false) h fun _ => h2
      | ex x => exact fun F0 H0 F H σ S Q q => h F0 H0 F H σ S _ fun v F1 H1 k r => ⟨false, r, (show tb σ H1 Q from h2 F0 H0 F1 H1 σ (S.wk k) _ fun od F2 H2 e => q od F2 H2 (k.f.trans e))⟩
      | no => trivial
    | true => exact ep_or (a := true) (b := true) h (fun z => nomatch z)
  | ex x => exact fun F0 H0 F H σ S Q q => h F0 H0 F H σ S _ q
  | no => trivial
theorem ye_and {m : R (Bool × σ)} {n : σ → R (Bool × σ)} (h : Ye P w K W eX ta env m eB en) (h2 : ∀ v, Ye P w K W eX tb (en v) (n v) eB en) : Ye P w K W eX (tAndV ta tb) env (m.bind2 fun b v => if b = true then n v else .ok (false, v)) eB en := by
  cases m with
  | ok p =>
    obtain ⟨b, v⟩ := p
    cases b with
    | true =>
      have h2 := h2 v
      show Ye P w K W eX _ env (n v) eB en
      cases e : n v with
      | ok c =>
        rw [e] at h2
        exact ⟨h.1.trans h2.1, fun F0 H0 F H σ S Q q => h.2 F0 H0 F H σ S _ fun u F1 H1 k S1 r => ⟨true, r, (show tb σ H1 Q from h2.2 F0 H0 F1 H1 σ S1 _ fun v2 F2 H2 k2 S2 r2 => q v2 F2 H2 (k.trans h.1 k2) S2 r2)⟩⟩
      | ex x =>
        rw [e] at h2
        exact fun F0 H0 F H σ S Q q => h.2 F0 H0 F H σ S _ fun u F1 H1 k S1 r => ⟨true, r, (show tb σ H1 Q from h2 F0 H0 F1 H1 σ S1 _ fun od F2 H2 e => q od F2 H2 (k.f.trans e))⟩
      | no => trivial
    | false => exact ee_and (a := false) (b := true) h (fun z => nomatch z)
  | ex x => exact fun F0 H0 F H σ S Q q => h F0 H0 F H σ S _ q
  | no => trivial
/-! None -/
theorem non_dec {e : α → Dt} {x : Option α} {F1 : Hp} {v : V} (hn : ∀ a, e a ≠ .non) (r : Rp K F1 (eO e x) v) : decide (v = V.non) = x.isNone := by
  cases x with
  | none => rw [show v = V.non from r]; rfl
  | some a =>
    have hn := hn a
    have r : Rp K F1 (e a) v := r
    rw [show (some a).isNone = false from rfl]
    apply decide_eq_false
    rintro rfl
    cases q : e a with
    | non => exact hn q
    | bl b => rw [q] at r; cases r
    | int b => rw [q] at r; cases r
    | str b => rw [q] at r; cases r
    | tup b => rw [q] at r; obtain ⟨_, _, z, _⟩ := r; cases z
    | lst b => rw [q] at r; obtain ⟨_, _, z, _⟩ := r; cases z
    | dic a b => rw [q] at r; obtain ⟨_, _, z, _⟩ := r; cases z
    | dit a b => rw [q] at r; obtain ⟨_, _, z, _⟩ := r; cases z
    | obj a b c => rw [q] at r; obtain ⟨_, _, _, z, _⟩ := r; cases z
    | exc a b c => rw [q] at r; obtain ⟨_, _, z, _⟩ := r; cases z
    | ty b => rw [q] at r; cases r
    | adr b => rw [q] at r; cases r
theorem ep_isNone {e : α → Dt} {x : Option α} (h : Ep P w K te env (eO e x)) (hn : ∀ a, e a ≠ .non := by intro a z; nomatch z) : Ep P w K (tOp rIsN te (tC .non)) env (eB x.isNone) := fun F0 H0 F H σ S Q q => h F0 H0 F H σ S _ fun v F1 H1 k r => by
  refine ⟨rfl, ?_⟩
  rw [non_dec hn r]
  exact q _ F1 H1 k rfl
theorem ep_notNone {e : α → Dt} {x : Option α} (h : Ep P w K te env (eO e x)) (hn : ∀ a, e a ≠ .non := by intro a z; nomatch z) : Ep P w K (tOp rNotN te (tC .non)) env (eB x.isSome) := fun F0 H0 F H σ S Q q => h F0 H0 F H σ S _ fun v F1 H1 k r => by
  refine ⟨rfl, ?_⟩
  rw [non_dec hn r, show (!x.isNone) = x.isSome by cases x <;> rfl]
  exact q _ F1 H1 k rfl
theorem xp_isNone {e : α → Dt} {m : R (Option α)} (h : Xp P w K W eX te env m (eO e)) (hn : ∀ a, e a ≠ .non := by intro a z; nomatch z) : Xp P w K W eX (tOp rIsN te (tC .non)) env (m.bind fun x => .ok x.isNone) eB := by
  cases m with
  | ok x => exact ep_isNone h hn
  | ex x => exact er_op1 h
  | no => trivial
theorem xp_notNone {e : α → Dt} {m : R (Option α)} (h : Xp P w K W eX te env m (eO e)) (hn : ∀ a, e a ≠ .non := by intro a z; nomatch z) : Xp P w K W eX (tOp rNotN te (tC .non)) env (m.bind fun x => .ok x.isSome) eB := by
  cases m with
  | ok x => exact ep_notNone h hn
  | ex x => exact er_op1 h
  | no => trivial
/-! built-in functions of one argument -/
theorem xp_b1 {rr : List V → Hp → VK → Prop} {m : R α} {f : α → γ} (h : Xp P w K W eX te env m da) (hr : ∀ a, RLd K rr [da a] (dz (f a))) : Xp P w K W eX (tCB rr (tCons te tNil)) env (m.bind fun a => .ok (f a)) dz := by
  cases m with
  | ok a => exact ep_cb (ap_cons h ap_nil) (hr a)
  | ex x => exact er_cb (era_1 h)
  | no => trivial
theorem ye_b1 {rr : List V → Hp → VK → Prop} {m : R (α × σ)} {f : α → γ} (h : Ye P w K W eX te env m da en) (hr : ∀ a, RLd K rr [da a] (dz (f a))) : Ye P w K W eX (tCB rr (tCons te tNil)) env (m.bind2 fun a v => .ok (f a, v)) dz en := by
  cases m with
  | ok p => exact ee_cb (ea_cons h (ea_p ap_nil)) (hr p.1)
  | ex x => exact er_cb (era_1 h)
  | no => trivial
theorem rl_lenLm {e : α → Dt} {xs : List α} : RLd K (rLenS K) [eL e xs] (eI (xs.length : Int)) := by
  have := Pw.rl_len (K := K) (ds := xs.map e)
  rwa [List.length_map] at this
theorem rl_lenTm {e : α → Dt} {xs : List α} : RLd K (rLenS K) [eT e xs] (eI (xs.length : Int)) := by
  have := Pw.rl_lenT (K := K) (ds := xs.map e)
  rwa [List.length_map] at this
theorem rl_allm {xs : List Bool} : RLd K (rAll K) [eL eB xs] (eB (xs.all id)) := Pw.rl_all
theorem rl_anym {xs : List Bool} : RLd K (rAny K) [eL eB xs] (eB (xs.any id)) := Pw.rl_any
theorem rl_sumI {xs : List Int} : RLd K (rSum K) [eL eI xs] (eI xs.sum) := fun F H vs s r Q q => by
  obtain ⟨v, r1, rfl, ⟨a, us, rfl, e1, e2⟩, e3⟩ := r
  cases e3
  rw [e2.ints] at e1
  exact ⟨a, xs, rfl, ex_l s e1, q _ F H (Wk.refl s) rfl⟩
theorem rl_intB {b : Bool} : RLd K Pw.rInt1 [eB b] (eI (if b = true then 1 else 0)) := fun F H vs s r Q q => by
  obtain ⟨v, r1, rfl, e1, e2⟩ := r
  cases e1; cases e2
  exact .inr ⟨b, rfl, q _ F H (Wk.refl s) rfl⟩
theorem xp_int {m : R Int} (h : Xp P w K W eX te env m eI) : Xp P w K W eX (tCB Pw.rInt1 (tCons te tNil)) env m eI := by
  cases m with
  | ok a => exact ep_cb (ap_cons h ap_nil) Pw.rl_int
  | ex x => exact er_cb (era_1 h)
  | no => trivial
theorem ye_int {m : R (Int × σ)} (h : Ye P w K W eX te env m eI en) : Ye P w K W eX (tCB Pw.rInt1 (tCons te tNil)) env m eI en := by
  cases m with
  | ok p => exact ee_cb (ea_cons h (ea_p ap_nil)) Pw.rl_int
  | ex x => exact er_cb (era_1 h)
  | no => trivial
theorem ye_intB {m : R (Bool × σ)} (h : Ye P w K W eX te env m eB en) : Ye P w K W eX (tCB Pw.rInt1 (tCons te tNil)) env (m.bind2 fun b v => .ok ((if b = true then 1 else 0 : Int), v)) eI en := ye_b1 h fun _ => rl_intB
theorem ep_tupleL {e : α → Dt} {xs : List α} (h : Ep P w K te env (eL e xs)) : Ep P w K (tCB (Pw.rTupS K) (tCons te tNil)) env (eT e xs) := ep_cb (ap_cons h ap_nil) Pw.rl_tup
theorem ep_tupleT {e : α → Dt} {xs : List α} (h : Ep P w K te env (eT e xs)) : Ep P w K (tCB (Pw.rTupS K) (tCons te tNil)) env (eT e xs) := ep_cb (ap_cons h ap_nil) Pw.rl_tupT
theorem xp_tupleL {e : α → Dt} {m : R (List α)} (h : Xp P w K W eX te env m (eL e)) : Xp P w K W eX (tCB (Pw.rTupS K) (tCons te tNil)) env m (eT e) := by
  cases m with
  | ok a => exact ep_tupleL h
  | ex x => exact er_cb (era_1 h)
  | no => trivial
theorem xp_tupleT {e : α → Dt} {m : R (List α)} (h : Xp P w K W eX te env m (eT e)) : Xp P w K W eX (tCB (Pw.rTupS K) (tCons te tNil)) env m (eT e) := by
  cases m with
  | ok a => exact ep_tupleT h
  | ex x => exact er_cb (era_1 h)
  | no => trivial
theorem ye_tupleL {e : α → Dt} {m : R (List α × σ)} (h : Ye P w K W eX te env m (eL e) en) : Ye P w K W eX (tCB (Pw.rTupS K) (tCons te tNil)) env m (eT e) en := by
  cases m with
  | ok p => exact ee_cb (ea_cons h (ea_p ap_nil)) Pw.rl_tup
  | ex x => exact er_cb (era_1 h)
  | no => trivial
theorem xo_listL {e : α → Dt} {m : R (List α)} (h : Xp P w K W eX te env m (eL e)) : Xo P w K W eX (tCB (rListS K) (tCons te tNil)) env m (oL e) := by
  cases m with
  | ok a => exact po_n (np_cb (ap_cons h ap_nil) Pw.rn_list)
  | ex x => exact er_cb (era_1 h)
  | no => trivial
theorem xo_listT {e : α → Dt} {m : R (List α)} (h : Xp P w K W eX te env m (eT e)) : Xo P w K W eX (tCB (rListS K) (tCons te tNil)) env m (oL e) := by
  cases m with
  | ok a => exact po_n (np_cb (ap_cons h ap_nil) Pw.rn_listT)
  | ex x => exact er_cb (era_1 h)
  | no => trivial
theorem xo_cutL {e : α → Dt} {m : R (List α)} {tl th : TO} {lo hi : Option Int} (h : Xp P w K W eX te env m (eL e)) (h1 : Op P w K tl env lo) (h2 : Op P w K th env hi) : Xo P w K W eX (tSl (rSlL K) te tl th) env (m.bind fun xs => .ok (cutR xs lo hi)) (oL e) := by
  cases m with
  | ok a => exact ep_cutL h h1 h2
  | ex x => exact fun F0 H0 F H σ S Q q => h F0 H0 F H σ S _ q
  | no => trivial
theorem xp_cutT {e : α → Dt} {m : R (List α)} {tl th : TO} {lo hi : Option Int} (h : Xp P w K W eX te env m (eT e)) (h1 : Op P w K tl env lo) (h2 : Op P w K th env hi) : Xp P w K W eX (tSl (rSlA K) te tl th) env (m.bind fun xs => .ok (cutR xs lo hi)) (eT e) := by
  cases m with
  | ok a => exact ep_cutT h h1 h2
  | ex x => exact fun F0 H0 F H σ S Q q => h F0 H0 F H σ S _ q
  | no => trivial
/-- (x, *t) -/
theorem xp_tupStarT {e : α → Dt} {m : R α} {n : R (List α)} (h : Xp P w K W eX ta env m e) (h2 : Xp P w K W eX tb env n (eT e)) : Xp P w K W eX (tTup (tCons ta (StX.tStar K tb tNil))) env (m.bind fun x => n.bind fun y => R.need ((x :: y).length ≤ 100000) (.ok (x :: y))) (eT e) := by
  cases m with
  | ok x =>
    cases n with
    | ok y =>
      show Xp P w K W eX _ env (R.need _ _) (eT e)
      by_cases hl : (x :: y).length ≤ 100000
      · rw [R.need_pos hl]
        have := ap_cons h (ap_starT h2 ap_nil)
        rw [List.append_nil] at this
        exact ep_tup this (by simpa using hl)
      · rw [R.need, if_neg hl]
        trivial
    | ex x => exact er_tup (era_2 h fun F0 H0 F H σ S Q q => h2 F0 H0 F H σ S _ q)
    | no => trivial
  | ex x => exact er_tup (era_1 h)
  | no => trivial
/-! isinstance -/
theorem xp_isInt {d : Dt} (h : Ep P w K te env d) : Xp P w K W eX (tCB (rIsi K) (tCons te (tCons (tC (.ty "int")) tNil))) env (R.need (tyD d).isSome (.ok (isI d || isB d))) eB := by
  unfold R.need
  split
  · exact ep_cb (ap_cons h (ap_cons ep_ty ap_nil)) (Pw.rl_isInt (by assumption))
  · trivial
theorem xp_isBool {d : Dt} (h : Ep P w K te env d) : Xp P w K W eX (tCB (rIsi K) (tCons te (tCons (tC (.ty "bool")) tNil))) env (R.need (tyD d).isSome (.ok (isB d))) eB := by
  unfold R.need
  split
  · exact ep_cb (ap_cons h (ap_cons ep_ty ap_nil)) (Pw.rl_isBool (by assumption))
  · trivial
theorem xp_isStr {d : Dt} (h : Ep P w K te env d) : Xp P w K W eX (tCB (rIsi K) (tCons te (tCons (tC (.ty "str")) tNil))) env (R.need (tyD d).isSome (.ok (isS d))) eB := by
  unfold R.need
  split
  · exact ep_cb (ap_cons h (ap_cons ep_ty ap_nil)) (Pw.rl_isStr (by assumption))
  · trivial
theorem xp_isTup {d : Dt} (h : Ep P w K te env d) : Xp P w K W eX (tCB (rIsi K) (tCons te (tCons (tC (.ty "tuple")) tNil))) env (R.need (tyD d).isSome (.ok (isTp d))) eB := by
  unfold R.need
  split
  · exact ep_cb (ap_cons h (ap_cons ep_ty ap_nil)) (Pw.rl_isTup (by assumption))
  · trivial
theorem xp_isList {d : Dt} (h : Ep P w K te env d) : Xp P w K W eX (tCB (rIsi K) (tCons te (tCons (tC (.ty "list")) tNil))) env (R.need (tyD d).isSome (.ok (isL d))) eB := by
  unfold R.need
  split
  · exact ep_cb (ap_cons h (ap_cons ep_ty ap_nil)) (Pw.rl_isList (by assumption))
  · trivial
/-! enumerate, zip -/
def enumI (xs : List α) : List (Int × α) := (List.range xs.length).zip xs |>.map fun p => ((p.1 : Int), p.2)
theorem wl_pair {J : It} {n : Nat} {G : Hp → Prop} {f h : Nat → Option V} {F1 : Hp} {ds : List Dt} (hn : ds.length = n) (wk : Walk J n G (YPair f h)) (hg : ∀ H, Ex F1 H → G H)
    (hd : ∀ i x y, i < n → f i = some x → h i = some y → ∃ d e, ds[i]? = some (.tup [d, e]) ∧ Rp K F1 d x ∧ Rp K F1 e y) : Wl K F1 J ds := by
  unfold Wl
  rw [hn]
  refine wk.mono hg fun i H v H' hi e y F2 e2 e3 => ?_
  obtain ⟨T, x, z, rfl, hT, rfl, hx, hz⟩ := y
  obtain ⟨d, e', h1, h2, h3⟩ := hd i x z hi hx hz
  have k : Wk F2 H (L2.upd F2 T (.tup [x, z])) (L2.upd H T (.tup [x, z])) := Wk.new e3 _ hT
  exact ⟨_, _, k, h1, T, [x, z], rfl, SqT.of upd_same, RpL.cons (h2.mono (e2.trans k.f)) (RpL.cons (h3.mono (e2.trans k.f)) RpL.nil)⟩
theorem walk_zipT {a b : Addr} {xs ys : List V} {n : Nat} (hn : n = min xs.length ys.length) : Walk (RZ.ItzT K a b) n (fun H => SqT K H a xs ∧ SqT K H b ys) (YPair (fun i => xs[i]?) (fun i => ys[i]?)) := by
  subst hn
  refine ⟨fun i _ hi q => ?_, fun _ q => ⟨xs, ys, q.1, q.2, by omega⟩, fun i H v H' _ q y => ?_⟩
  · have h1 : i < xs.length := by omega
    have h2 : i < ys.length := by omega
    exact ⟨xs, ys, xs[i], ys[i], q.1, q.2, by simp [h1], by simp [h2]⟩
  · obtain ⟨T, x, z, h1, h2, h3, h4, h5⟩ := y
    exact ⟨T, x, z, h1, h2, h3, h4 xs q.1, h5 ys q.2⟩
theorem rp_at {e : α → Dt} {xs : List α} {vs : List V} {F : Hp} {i : Nat} {x : V} (r : RpL K F (xs.map e) vs) (h : vs[i]? = some x) : ∃ a, xs[i]? = some a ∧ Rp K F (e a) x := by
  obtain ⟨d, h1, h2⟩ := r.getV h
  rw [List.getElem?_map] at h1
  obtain ⟨a, h3, rfl⟩ := Option.map_eq_some_iff.mp h1
  exact ⟨a, h3, h2⟩
theorem xi_enum {e : α → Dt} {m : R (List α)} (h : Xp P w K W eX te env m (eL e)) : Xi P w K W eX (iEnum K (tCons te tNil)) env (m.bind fun xs => .ok (enumI xs)) (eP2 eI e) := by
  cases m with
  | ok xs =>
    refine fun F0 H0 F H σ S R k => h F0 H0 F H σ S _ fun v F1 H1 k1 r => ?_
    obtain ⟨a, vs, rfl, g1, g2⟩ := r
    have hl := g2.length
    rw [List.length_map] at hl
    refine ⟨a, vs, rfl, ex_l k1.s g1, k _ F1 H1 k1 (wl_pair (n := vs.length) (by simp [enumI, hl]) walk_enum (fun H e => ex_l e g1) fun i x y hi hx hy => ?_)⟩
    obtain ⟨b, hb, rb⟩ := rp_at g2 hy
    cases hx
    refine ⟨.int i, e b, ?_, rfl, rb⟩
    have hl2 : i < xs.length := (List.getElem?_eq_some_iff.mp hb).1
    rw [List.getElem?_map, enumI, List.getElem?_map, List.getElem?_zip_eq_some.mpr (show (List.range xs.length)[i]? = some (i, b).1 ∧ xs[i]? = some (i, b).2 from ⟨by simp [hl2], hb⟩)]
    rfl
  | ex x => exact fun F0 H0 F H σ S Q q => h F0 H0 F H σ S _ q
  | no => trivial
theorem zip_at {e1 : α → Dt} {e2 : β → Dt} {xs : List α} {ys : List β} {us vs : List V} {F : Hp} (r1 : RpL K F (xs.map e1) us) (r2 : RpL K F (ys.map e2) vs) (i : Nat) (x y : V) (hx : us[i]? = some x) (hy : vs[i]? = some y) : ∃ d e, ((xs.zip ys).map (eP2 e1 e2))[i]? = some (.tup [d, e]) ∧ Rp K F d x ∧ Rp K F e y := by
  obtain ⟨a, ha, ra⟩ := rp_at r1 hx
  obtain ⟨b, hb, rb⟩ := rp_at r2 hy
  refine ⟨e1 a, e2 b, ?_, ra, rb⟩
  rw [List.getElem?_map, List.getElem?_zip_eq_some.mpr (show xs[i]? = some (a, b).1 ∧ ys[i]? = some (a, b).2 from ⟨ha, hb⟩)]
  rfl
theorem xi_zipT {e1 : α → Dt} {e2 : β → Dt} {m : R (List α)} {n : R (List β)} (h : Xp P w K W eX ta env m (eT e1)) (h2 : Xp P w K W eX tb env n (eT e2)) : Xi P w K W eX (RZ.iZipA K (tCons ta (tCons tb tNil))) env (m.bind fun xs => n.bind fun ys => .ok (xs.zip ys)) (eP2 e1 e2) := by
  cases m with
  | ok xs =>
    cases n with
    | ok ys =>
      refine fun F0 H0 F H σ S R k => h F0 H0 F H σ S _ fun v F1 H1 k1 r => h2 F0 H0 F1 H1 σ (S.wk k1) _ fun v2 F2 H2 k2 r2 => ?_
      obtain ⟨a, us, rfl, g1, g2⟩ := r
      obtain ⟨b, vs, rfl, g3, g4⟩ := r2
      have q1 := g2.mono k2.f
      have l1 := g2.length
      have l2 := g4.length
      rw [List.length_map] at l1 l2
      refine ⟨a, b, us, vs, rfl, .inr ⟨ex_t (k1.s.trans k2.h) g1, ex_t k2.s g3, k _ F2 H2 (k1.trans k2) (wl_pair (n := min us.length vs.length) (by rw [List.length_map, List.length_zip, l1, l2]) (walk_zipT rfl) (fun H e => ⟨ex_t (k2.f.trans e) g1, ex_t e g3⟩) fun i x y hi hx hy => zip_at q1 g4 i x y hx hy)⟩⟩
    | ex x => exact fun F0 H0 F H σ S Q q => h F0 H0 F H σ S _ fun v F1 H1 k _ => h2 F0 H0 F1 H1 σ (S.wk k) _ fun od F2 H2 e => q od F2 H2 (k.f.trans e)
    | no => trivial
  | ex x => exact fun F0 H0 F H σ S Q q => h F0 H0 F H σ S _ q
  | no => trivial
theorem xi_zipL {e1 : α → Dt} {e2 : β → Dt} {m : R (List α)} {n : R (List β)} (h : Xp P w K W eX ta env m (eL e1)) (h2 : Xp P w K W eX tb env n (eL e2)) : Xi P w K W eX (iZip K (tCons ta (tCons tb tNil))) env (m.bind fun xs => n.bind fun ys => .ok (xs.zip ys)) (eP2 e1 e2) := by
  cases m with
  | ok xs =>
    cases n with
    | ok ys =>
      refine fun F0 H0 F H σ S R k => h F0 H0 F H σ S _ fun v F1 H1 k1 r => h2 F0 H0 F1 H1 σ (S.wk k1) _ fun v2 F2 H2 k2 r2 => ?_
      obtain ⟨a, us, rfl, g1, g2⟩ := r
      obtain ⟨b, vs, rfl, g3, g4⟩ := r2
      have q1 := g2.mono k2.f
      have l1 := g2.length
      have l2 := g4.length
      rw [List.length_map] at l1 l2
      refine ⟨a, b, us, vs, rfl, ex_l (k1.s.trans k2.h) g1, ex_l k2.s g3, k _ F2 H2 (k1.trans k2) (wl_pair (n := min us.length vs.length) (by rw [List.length_map, List.length_zip, l1, l2]) (walk_zip rfl) (fun H e => ⟨ex_l (k2.f.trans e) g1, ex_l e g3⟩) fun i x y hi hx hy => zip_at q1 g4 i x y hx hy)⟩
    | ex x => exact fun F0 H0 F H σ S Q q => h F0 H0 F H σ S _ fun v F1 H1 k _ => h2 F0 H0 F1 H1 σ (S.wk k) _ fun od F2 H2 e => q od F2 H2 (k.f.trans e)
    | no => trivial
  | ex x => exact fun F0 H0 F H σ S Q q => h F0 H0 F H σ S _ q
  | no => trivial
/-! tests, statements -/
theorem ye_ixO {i : Nat} {t : Option Addr} {e : α → Dt} {xs : List α} {m : R (Int × σ)} (hi : env[i]? = some (.ow t (oL e xs))) (hi1 : ∀ v, (en v)[i]? = some (.ow t (oL e xs))) (hk : Ye P w K W eX tb env m eI en) : Ye P w K W eX (tOp (rIxL K) (tVar i) tb) env (m.bind2 fun k v => (ixR xs k).bind fun z => .ok (z, v)) e en := by
  cases m with
  | ok p =>
    obtain ⟨k, v⟩ := p
    show Ye P w K W eX _ env ((ixR xs k).bind fun z => .ok (z, v)) e en
    unfold ixR
    cases h : ixN xs.length k with
    | none => trivial
    | some j =>
      show Ye P w K W eX _ env (R.bind (match xs[j]? with | some a => .ok a | none => .no) fun z => .ok (z, v)) e en
      cases h2 : xs[j]? with
      | none => trivial
      | some a => exact ee_ixO hi hk (hi1 v) (by rw [List.length_map]; exact h) (by rw [List.getElem?_map, h2]; rfl)
  | ex x =>
    refine fun F0 H0 F H σ S Q q => ?_
    obtain ⟨p, o, e1, _⟩ := S.own hi
    exact ⟨_, e1, hk F0 H0 F H σ S _ q⟩
  | no => trivial
theorem sx_ifjY {eL : τ → En} {out : ρ → Out} {s1 s2 s3 : TS} {eN : δ → En} {eM : σ' → En} {m : R (Bool × σ)} {m1 m2 : σ → R (Ctl σ' τ ρ)} {k : σ' → R (Ctl δ τ ρ)} (hf : ∀ b, (out b).fin = true) (h : Yt P w K W eX tt env m en) (h1 : ∀ v, Sx P w K W eX eL out s1 (en v) (m1 v) eM) (h2 : ∀ v, Sx P w K W eX eL out s2 (en v) (m2 v) eM) (hk : ∀ v, Sx P w K W eX eL out s3 (eM v) (k v) eN) : Sx P w K W eX eL out (tSeq (tIfS tt s1 s2) s3) env ((m.bind2 fun b v => if b = true then m1 v else m2 v).bindC k) eN :=
  sx_seq hf (sx_last (sx_ifY h h1 h2)) hk
theorem yt_yes {v : σ} (he : env = en v) : Yt P w K W eX tYes env (.ok (true, v)) en := (show Te P w K tYes env true (en v) from he ▸ te_p tp_yes)
theorem sx_app1 {eL : τ → En} {out : ρ → Out} {s2 : TS} {eN : σ → En} {e : α → Dt} {m : R (Ctl σ τ ρ)} (i : Nat) {t : Option Addr} {xs : List α} {a : α} (h : Sx P w K W eX eL out s2 (env.set i (.ow t (oL e (xs ++ [a])))) m eN) : Sx P w K W eX eL out s2 (env.set i (.ow t (.lst (xs.map e ++ [e a])))) m eN := by
  have : (oL e (xs ++ [a])) = Ow.lst (xs.map e ++ [e a]) := by show Ow.lst _ = _; rw [List.map_append]; rfl
  rw [this] at h
  exact h
end
end Mw

set_option maxHeartbeats 1000000
/-! ### the law's own comparison -/
namespace Mw
open PySem PySem.Spec PyProof.Rows L2 Qw
open Evl hiding ea_cons
open Pw (Dt Rp RpL Wk R2d R1d RLd RLn Kq KqL none_sub spX2 tyD isI isB isS isTp isL)
def isNonD : Dt → Bool
  | .non => true
  | _ => false
def R.isOk {α : Type} : R α → Bool
  | .ok _ => true
  | _ => false
def R.isTrue : R Bool → Bool
  | .ok true => true
  | _ => false
/-- what _law_same(a, e) gives, n calls deep at most -/
def sameN : Nat → Dt → Dt → R Bool
  | 0, _, _ => .no
  | n + 1, a, .tup es => match a with
    | .tup as => if as.length = es.length then R.need (es.length ≤ 100000 ∧ ((as.zip es).all fun p => (sameN n p.1 p.2).isOk) = true) (.ok ((as.zip es).all fun p => (sameN n p.1 p.2).isTrue)) else .ok false
    | a => R.need ((tyD a).isSome = true) (.ok false)
  | n + 1, a, .lst es => match a with
    | .lst as => sameN n (.tup as) (.tup es)
    | a => R.need ((tyD a).isSome = true) (.ok false)
  | n + 1, a, .str x => match a with
    | .str y => .ok (decide (y = x))
    | a => R.need ((tyD a).isSome = true) (.ok false)
  | n + 1, a, .non => .ok (isNonD a)
  | n + 1, a, .bl b => match a with
    | .bl c => .ok (decide (c = b))
    | a => R.need ((tyD a).isSome = true) (.ok false)
  | n + 1, a, .int i => match a with
    | .int j => .ok (decide (j = i))
    | a => R.need ((tyD a).isSome = true) (.ok false)
  | _, _, _ => .no
/-- an encoding that it compares rightly -/
def SamE (n : Nat) {α : Type} [DecidableEq α] (e : α → Dt) : Prop := ∀ m, n ≤ m → ∀ a b, sameN m (e a) (e b) = .ok (decide (a = b))
theorem samE_int : SamE 1 eI := fun m hm a b => by
  obtain ⟨m, rfl⟩ : ∃ k, m = k + 1 := ⟨m - 1, by omega⟩
  rfl
theorem samE_bool : SamE 1 eB := fun m hm a b => by
  obtain ⟨m, rfl⟩ : ∃ k, m = k + 1 := ⟨m - 1, by omega⟩
  rfl
theorem samE_str : SamE 1 eS := fun m hm a b => by
  obtain ⟨m, rfl⟩ : ∃ k, m = k + 1 := ⟨m - 1, by omega⟩
  rfl
theorem samE_optI : SamE 1 (eO eI) := fun m hm a b => by
  obtain ⟨m, rfl⟩ : ∃ k, m = k + 1 := ⟨m - 1, by omega⟩
  cases a <;> cases b
  · rfl
  · rfl
  · rfl
  · show R.ok _ = R.ok _
    congr 1
    simp
theorem all_true {α β : Type} [DecidableEq α] {e : α → Dt} {n : Nat} (h : ∀ a b, sameN n (e a) (e b) = .ok (decide (a = b))) : ∀ xs ys : List α, xs.length = ys.length →
    (((xs.map e).zip (ys.map e)).all fun p => (sameN n p.1 p.2).isOk) = true ∧ (((xs.map e).zip (ys.map e)).all fun p => (sameN n p.1 p.2).isTrue) = decide (xs = ys)
  | [], [], _ => ⟨rfl, rfl⟩
  | a :: xs, b :: ys, hl => by
    obtain ⟨i1, i2⟩ := all_true (β := β) h xs ys (by simpa using hl)
    rw [List.map_cons, List.map_cons, List.zip_cons_cons, List.all_cons, List.all_cons, i1, i2]
    simp only [h]
    refine ⟨rfl, ?_⟩
    by_cases e1 : a = b <;> simp [e1, R.isTrue]
theorem same_tup {α : Type} [DecidableEq α] {e : α → Dt} {n : Nat} (h : SamE n e) (m : Nat) (hm : n + 1 ≤ m) (xs ys : List α) (hl : ys.length ≤ 100000) : sameN m (eT e xs) (eT e ys) = .ok (decide (xs = ys)) := by
  obtain ⟨m, rfl⟩ : ∃ k, m = k + 1 := ⟨m - 1, by omega⟩
  show (if (xs.map e).length = (ys.map e).length then _ else _) = _
  rw [List.length_map, List.length_map]
  by_cases hz : xs.length = ys.length
  · obtain ⟨i1, i2⟩ := all_true (β := Unit) (h m (by omega)) xs ys hz
    rw [if_pos hz, R.need_pos ⟨hl, i1⟩, i2]
  · rw [if_neg hz, decide_eq_false]
    rintro rfl
    exact hz rfl
theorem same_lst {α : Type} [DecidableEq α] {e : α → Dt} {n : Nat} (h : SamE n e) (m : Nat) (hm : n + 2 ≤ m) (xs ys : List α) (hl : ys.length ≤ 100000) : sameN m (eL e xs) (eL e ys) = .ok (decide (xs = ys)) := by
  obtain ⟨m, rfl⟩ : ∃ k, m = k + 1 := ⟨m - 1, by omega⟩
  exact same_tup h m (by omega) xs ys hl
/-- encodings of lists that are not too long -/
def SamB (n : Nat) {α : Type} [DecidableEq α] (e : α → Dt) (ok : α → Prop) : Prop := ∀ m, n ≤ m → ∀ a b, ok b → sameN m (e a) (e b) = .ok (decide (a = b))
theorem SamE.b {n : Nat} {α : Type} [DecidableEq α] {e : α → Dt} (h : SamE n e) : SamB n e (fun _ => True) := fun m hm a b _ => h m hm a b
theorem all_trueB {α : Type} [DecidableEq α] {e : α → Dt} {n : Nat} {ok : α → Prop} (h : ∀ a b, ok b → sameN n (e a) (e b) = .ok (decide (a = b))) : ∀ xs ys : List α, xs.length = ys.length → (∀ y ∈ ys, ok y) →
    (((xs.map e).zip (ys.map e)).all fun p => (sameN n p.1 p.2).isOk) = true ∧ (((xs.map e).zip (ys.map e)).all fun p => (sameN n p.1 p.2).isTrue) = decide (xs = ys)
  | [], [], _, _ => ⟨rfl, rfl⟩
  | a :: xs, b :: ys, hl, ho => by
    obtain ⟨i1, i2⟩ := all_trueB h xs ys (by simpa using hl) (fun y hy => ho y (List.mem_cons_of_mem _ hy))
    rw [List.map_cons, List.map_cons, List.zip_cons_cons, List.all_cons, List.all_cons, i1, i2]
    simp only [h a b (ho b List.mem_cons_self)]
    refine ⟨rfl, ?_⟩
    by_cases e1 : a = b <;> simp [e1, R.isTrue]
theorem samB_tup {α : Type} [DecidableEq α] {e : α → Dt} {n : Nat} {ok : α → Prop} (h : SamB n e ok) : SamB (n + 1) (eT e) (fun ys => ys.length ≤ 100000 ∧ ∀ y ∈ ys, ok y) := fun m hm xs ys hl => by
  obtain ⟨m, rfl⟩ : ∃ k, m = k + 1 := ⟨m - 1, by omega⟩
  show (if (xs.map e).length = (ys.map e).length then _ else _) = _
  rw [List.length_map, List.length_map]
  by_cases hz : xs.length = ys.length
  · obtain ⟨i1, i2⟩ := all_trueB (h m (by omega)) xs ys hz hl.2
    rw [if_pos hz, R.need_pos ⟨hl.1, i1⟩, i2]
  · rw [if_neg hz, decide_eq_false]
    rintro rfl
    exact hz rfl
theorem samB_lst {α : Type} [DecidableEq α] {e : α → Dt} {n : Nat} {ok : α → Prop} (h : SamB n e ok) : SamB (n + 2) (eL e) (fun ys => ys.length ≤ 100000 ∧ ∀ y ∈ ys, ok y) := fun m hm xs ys hl => by
  obtain ⟨m, rfl⟩ : ∃ k, m = k + 1 := ⟨m - 1, by omega⟩
  exact samB_tup h m (by omega) xs ys hl
theorem samB_p2 {α β : Type} [DecidableEq α] [DecidableEq β] {e1 : α → Dt} {e2 : β → Dt} {n : Nat} {ok1 : α → Prop} {ok2 : β → Prop} (h1 : SamB n e1 ok1) (h2 : SamB n e2 ok2) : SamB (n + 1) (eP2 e1 e2) (fun p => ok1 p.1 ∧ ok2 p.2) := fun m hm x y hl => by
  obtain ⟨m, rfl⟩ : ∃ k, m = k + 1 := ⟨m - 1, by omega⟩
  have a1 := h1 m (by omega) x.1 y.1 hl.1
  have a2 := h2 m (by omega) x.2 y.2 hl.2
  have hok : (([e1 x.1, e2 x.2].zip [e1 y.1, e2 y.2]).all fun p => (sameN m p.1 p.2).isOk) = true := by simp [a1, a2, R.isOk]
  have htr : (([e1 x.1, e2 x.2].zip [e1 y.1, e2 y.2]).all fun p => (sameN m p.1 p.2).isTrue) = decide (x = y) := by
    obtain ⟨a, b⟩ := x
    obtain ⟨c, d⟩ := y
    simp only [List.zip_cons_cons, List.zip_nil_left, List.all_cons, List.all_nil, a1, a2]
    by_cases h1 : a = c <;> by_cases h2 : b = d <;> simp [h1, h2, R.isTrue]
  show R.need ([e1 y.1, e2 y.2].length ≤ 100000 ∧ _) (R.ok _) = _
  rw [R.need_pos ⟨by show 2 ≤ 100000; omega, hok⟩, htr]
theorem sameN_ne : ∀ (n : Nat) (a e : Dt) (x : Exn), sameN n a e ≠ .ex x
  | 0, _, _, _, h => by cases h
  | n + 1, a, .tup es, x, h => by
    cases a <;> simp only [sameN, R.need] at h <;> (repeat' split at h) <;> cases h
  | n + 1, a, .lst es, x, h => by
    cases a with
    | lst as => exact sameN_ne n (.tup as) (.tup es) x h
    | _ => simp only [sameN, R.need] at h <;> (repeat' split at h) <;> cases h
  | n + 1, a, .str y, x, h => by
    cases a <;> simp only [sameN, R.need] at h <;> (repeat' split at h) <;> cases h
  | n + 1, a, .non, x, h => by cases h
  | n + 1, a, .bl y, x, h => by
    cases a <;> simp only [sameN, R.need] at h <;> (repeat' split at h) <;> cases h
  | n + 1, a, .int y, x, h => by
    cases a <;> simp only [sameN, R.need] at h <;> (repeat' split at h) <;> cases h
  | n + 1, a, .dic _ _, x, h => by simp [sameN] at h
  | n + 1, a, .dit _ _, x, h => by simp [sameN] at h
  | n + 1, a, .obj _ _ _, x, h => by simp [sameN] at h
  | n + 1, a, .exc _ _ _, x, h => by simp [sameN] at h
  | n + 1, a, .ty _, x, h => by simp [sameN] at h
  | n + 1, a, .adr _, x, h => by simp [sameN] at h
section
variable {P : Program} {w : World} {K : PySem.W.Frag} {env : En} {te : TE}
theorem isNon_dec {d : Dt} {F1 : Hp} {v : V} (r : Rp K F1 d v) : decide (v = V.non) = isNonD d := by
  cases d with
  | non => cases r; rfl
  | bl b => cases r; rfl
  | int b => cases r; rfl
  | str b => cases r; rfl
  | tup b => obtain ⟨_, _, rfl, _⟩ := r; rfl
  | lst b => obtain ⟨_, _, rfl, _⟩ := r; rfl
  | dic a b => obtain ⟨_, _, rfl, _⟩ := r; rfl
  | dit a b => obtain ⟨_, _, rfl, _⟩ := r; rfl
  | obj a b c => obtain ⟨_, _, _, rfl, _⟩ := r; rfl
  | exc a b c => obtain ⟨_, _, rfl, _⟩ := r; rfl
  | ty b => cases r; rfl
  | adr b => cases r; rfl
theorem ep_isN {d : Dt} (h : Ep P w K te env d) : Ep P w K (tOp rIsN te (tC .non)) env (.bl (isNonD d)) := fun F0 H0 F H σ S Q q => h F0 H0 F H σ S _ fun v F1 H1 k r => by
  refine ⟨rfl, ?_⟩
  rw [isNon_dec r]
  exact q _ F1 H1 k rfl
end
end Mw

set_option maxHeartbeats 1000000
/-! ### what holds of what a mirror gives -/
namespace Mw
open PySem PySem.Spec PyProof.Rows L2 Qw
open Evl hiding ea_cons
open Pw (Dt)
section
variable {α β γ σ σ' τ ρ : Type}
@[irreducible] def Holds (m : R α) (Q : α → Prop) : Prop := match m with
  | .ok a => Q a
  | _ => False
theorem holds_ok {a : α} {Q : α → Prop} : Holds (.ok a) Q ↔ Q a := by
  unfold Holds
  exact Iff.rfl
theorem holds_ex {x : Exn} {Q : α → Prop} : Holds (.ex x) Q ↔ False := by
  unfold Holds
  exact Iff.rfl
theorem holds_no {Q : α → Prop} : Holds .no Q ↔ False := by
  unfold Holds
  exact Iff.rfl
theorem holds_bind {m : R α} {f : α → R β} {Q : β → Prop} : Holds (m.bind f) Q ↔ Holds m fun a => Holds (f a) Q := by
  unfold Holds
  cases m <;> exact Iff.rfl
theorem holds_bind2 {m : R (α × σ)} {f : α → σ → R β} {Q : β → Prop} : Holds (m.bind2 f) Q ↔ Holds m fun p => Holds (f p.1 p.2) Q := by
  unfold Holds
  cases m <;> exact Iff.rfl
theorem holds_nox {m : R α} {Q : α → Prop} : Holds m.nox Q ↔ Holds m Q := by
  unfold Holds
  cases m <;> exact Iff.rfl
theorem holds_need {c : Prop} [Decidable c] {m : R α} {Q : α → Prop} : Holds (R.need c m) Q ↔ c ∧ Holds m Q := by
  unfold R.need
  split
  · rename_i h
    exact ⟨fun q => ⟨h, q⟩, fun q => q.2⟩
  · rename_i h
    exact ⟨fun q => (holds_no.mp q).elim, fun q => absurd q.1 h⟩
/-- an end of a block -/
def onC (f : σ → Prop) (Q : Ctl σ' τ ρ → Prop) : Ctl σ τ ρ → Prop
  | .nx s => f s
  | .ct t => Q (.ct t)
  | .bk t => Q (.bk t)
  | .rt b => Q (.rt b)
theorem holds_bindC {m : R (Ctl σ τ ρ)} {k : σ → R (Ctl σ' τ ρ)} {Q : Ctl σ' τ ρ → Prop} : Holds (m.bindC k) Q ↔ Holds m (onC (fun s => Holds (k s) Q) Q) := by
  unfold Holds
  cases m with
  | ok c => cases c <;> exact Iff.rfl
  | ex x => exact Iff.rfl
  | no => exact Iff.rfl
theorem onC_nx {f : σ → Prop} {Q : Ctl σ' τ ρ → Prop} {s : σ} : onC f Q (.nx s) ↔ f s := Iff.rfl
theorem onC_rt {f : σ → Prop} {Q : Ctl σ' τ ρ → Prop} {s : ρ} : onC f Q (.rt s) ↔ Q (.rt s) := Iff.rfl
theorem onC_ct {f : σ → Prop} {Q : Ctl σ' τ ρ → Prop} {s : τ} : onC f Q (.ct s) ↔ Q (.ct s) := Iff.rfl
theorem onC_bk {f : σ → Prop} {Q : Ctl σ' τ ρ → Prop} {s : τ} : onC f Q (.bk s) ↔ Q (.bk s) := Iff.rfl
theorem holds_if {c : Prop} [Decidable c] {a b : R α} {Q : α → Prop} : Holds (if c then a else b) Q ↔ (c → Holds a Q) ∧ (¬ c → Holds b Q) := by
  split
  · rename_i h
    exact ⟨fun q => ⟨fun _ => q, fun n => absurd h n⟩, fun q => q.1 h⟩
  · rename_i h
    exact ⟨fun q => ⟨fun n => absurd n h, fun _ => q⟩, fun q => q.2 h⟩
def onR (Q : ρ → Prop) : Ctl σ τ ρ → Prop
  | .rt b => Q b
  | _ => False
theorem onR_rt {Q : ρ → Prop} {b : ρ} : onR (σ := σ) (τ := τ) Q (.rt b) ↔ Q b := Iff.rfl
theorem holds_fin {m : R (Ctl σ τ ρ)} {Q : ρ → Prop} : Holds m.fin Q ↔ Holds m (onR Q) := by
  unfold Holds
  cases m with
  | ok c => cases c <;> exact Iff.rfl
  | ex x => exact Iff.rfl
  | no => exact Iff.rfl
theorem holds_finU {m : R (Ctl σ τ Unit)} {Q : Unit → Prop} : Holds m.finU Q ↔ Holds m (fun c => match c with | .rt b => Q b | .nx _ => Q () | _ => False) := by
  unfold Holds
  cases m with
  | ok c => cases c <;> exact Iff.rfl
  | ex x => exact Iff.rfl
  | no => exact Iff.rfl
theorem Holds.imp {m : R α} {Q Q' : α → Prop} (h : Holds m Q) (i : ∀ a, Q a → Q' a) : Holds m Q' := by
  unfold Holds at h ⊢
  cases m with
  | ok a => exact i a h
  | ex x => exact h
  | no => exact h
theorem holds_eq {m : R α} {b : α} : Holds m (fun a => a = b) ↔ m = .ok b := by
  unfold Holds
  cases m with
  | ok a => exact ⟨fun h => by rw [show a = b from h], fun h => R.ok.inj h⟩
  | ex x => exact ⟨fun h => h.elim, fun h => nomatch h⟩
  | no => exact ⟨fun h => h.elim, fun h => nomatch h⟩
theorem Holds.ex {m : R α} {Q : α → Prop} (h : Holds m Q) : ∃ a, m = .ok a ∧ Q a := by
  unfold Holds at h
  cases m with
  | ok a => exact ⟨a, rfl, h⟩
  | ex x => exact h.elim
  | no => exact h.elim
theorem Holds.of {m : R α} {Q : α → Prop} {a : α} (h : m = .ok a) (q : Q a) : Holds m Q := by rw [h]; exact holds_ok.mpr q
/-- a turn of a for -/
def onF (I : σ → Prop) (Q : Ctl σ τ ρ → Prop) : Ctl σ σ ρ → Prop
  | .nx s => I s
  | .ct s => I s
  | .bk s => Q (.nx s)
  | .rt b => Q (.rt b)
theorem onF_nx {I : σ → Prop} {Q : Ctl σ τ ρ → Prop} {s : σ} : onF I Q (.nx s) ↔ I s := Iff.rfl
theorem onF_ct {I : σ → Prop} {Q : Ctl σ τ ρ → Prop} {s : σ} : onF I Q (.ct s) ↔ I s := Iff.rfl
theorem onF_bk {I : σ → Prop} {Q : Ctl σ τ ρ → Prop} {s : σ} : onF I Q (.bk s) ↔ Q (.nx s) := Iff.rfl
theorem onF_rt {I : σ → Prop} {Q : Ctl σ τ ρ → Prop} {b : ρ} : onF I Q (.rt b) ↔ Q (.rt b) := Iff.rfl
/-- by what is left -/
theorem holds_for {f : σ → α → R (Ctl σ σ ρ)} {Q : Ctl σ τ ρ → Prop} (I : σ → List α → Prop) : ∀ (xs : List α) (s0 : σ), I s0 xs → (∀ s a r, I s (a :: r) → Holds (f s a) (onF (fun s' => I s' r) Q)) → (∀ s, I s [] → Q (.nx s)) → Holds (R.forR xs s0 f) Q
  | [], s0, h0, _, hd => holds_ok.mpr (hd s0 h0)
  | a :: r, s0, h0, hs, hd => by
    have h := hs s0 a r h0
    rw [R.forR]
    cases e : f s0 a with
    | ok c =>
      rw [e, holds_ok] at h
      cases c with
      | nx s => exact holds_for I r s h hs hd
      | ct s => exact holds_for I r s h hs hd
      | bk s => exact holds_ok.mpr h
      | rt b => exact holds_ok.mpr h
    | ex x => rw [e] at h; exact (by first | exact (holds_ex.mp h).elim | exact (holds_no.mp h).elim)
    | no => rw [e] at h; exact (by first | exact (holds_ex.mp h).elim | exact (holds_no.mp h).elim)
/-- by what is done -/
theorem holds_forD {f : σ → α → R (Ctl σ σ ρ)} {Q : Ctl σ τ ρ → Prop} (I : σ → List α → Prop) (xs : List α) (s0 : σ) (h0 : I s0 []) (hs : ∀ s pre a post, xs = pre ++ a :: post → I s pre → Holds (f s a) (onF (fun s' => I s' (pre ++ [a])) Q)) (hd : ∀ s, I s xs → Q (.nx s)) : Holds (R.forR xs s0 f) Q := by
  refine holds_for (fun s r => ∃ pre, xs = pre ++ r ∧ I s pre) xs s0 ⟨[], rfl, h0⟩ (fun s a r ⟨pre, e, h⟩ => ?_) (fun s ⟨pre, e, h⟩ => hd s (by rw [e, List.append_nil]; exact h))
  refine (hs s pre a r e h).imp fun c hc => ?_
  cases c with
  | nx s => exact ⟨pre ++ [a], by simp [e], hc⟩
  | ct s => exact ⟨pre ++ [a], by simp [e], hc⟩
  | bk s => exact hc
  | rt b => exact hc
/-- a for over range(n), by the turn -/
theorem rangeI_len {lo : Int} {n : Nat} : (rangeI lo n).length = n := by simp [rangeI]
theorem rangeI_get {lo : Int} {n i : Nat} (h : i < n) : (rangeI lo n)[i]? = some (lo + i) := by simp [rangeI, h]
theorem rangeI_mem {lo : Int} {n : Nat} {x : Int} : x ∈ rangeI lo n ↔ ∃ i : Nat, i < n ∧ x = lo + i := by
  unfold rangeI
  rw [List.mem_map]
  constructor
  · rintro ⟨i, h, rfl⟩
    exact ⟨i, by simpa using h, rfl⟩
  · rintro ⟨i, h, rfl⟩
    exact ⟨i, by simpa using h, rfl⟩
theorem rangeI0_map {n : Nat} {f : Int → β} : (rangeI 0 n).map f = (List.range n).map fun i : Nat => f (i : Int) := by
  unfold rangeI
  rw [List.map_map]
  apply List.map_congr_left
  intro i _
  simp
theorem rangeI0 {n : Nat} : rangeI 0 n = (List.range n).map fun i : Nat => (i : Int) := by
  unfold rangeI
  apply List.map_congr_left
  intro i _
  simp
theorem holds_rng {f : σ → Int → R (Ctl σ σ ρ)} {Q : Ctl σ τ ρ → Prop} (I : σ → Nat → Prop) (lo : Int) (n : Nat) (s0 : σ) (h0 : I s0 0) (hs : ∀ s (i : Nat), i < n → I s i → Holds (f s (lo + i)) (onF (fun s' => I s' (i + 1)) Q)) (hd : ∀ s, I s n → Q (.nx s)) : Holds (R.forR (rangeI lo n) s0 f) Q := by
  refine holds_forD (fun s pre => I s pre.length) _ s0 h0 (fun s pre a post e h => ?_) (fun s h => hd s (by rwa [rangeI_len] at h))
  have hl : pre.length < n := by
    have := congrArg List.length e
    simp [rangeI_len] at this
    omega
  have ha : a = lo + pre.length := by
    have h1 := rangeI_get (lo := lo) hl
    rw [e] at h1
    simpa using h1
  subst ha
  refine (hs s pre.length hl h).imp fun c hc => ?_
  cases c with
  | nx s => rw [onF_nx] at hc ⊢; rwa [List.length_append]
  | ct s => rw [onF_ct] at hc ⊢; rwa [List.length_append]
  | bk s => exact hc
  | rt b => exact hc
/-- comprehensions -/
theorem holds_lc {t : α → R Bool} {f : α → R β} {Q : List β → Prop} {xs : List α} (p : α → Bool) (v : α → β) (hl : xs.length ≤ 40000) (ht : ∀ a ∈ xs, t a = .ok (p a)) (hf : ∀ a ∈ xs, p a = true → f a = .ok (v a)) (hq : Q ((xs.filter p).map v)) : Holds (R.lcR xs t f) Q := .of (R.lcR_on hl ht hf) hq
theorem holds_map {f : α → R β} {Q : List β → Prop} {xs : List α} (v : α → β) (hl : xs.length ≤ 40000) (hf : ∀ a ∈ xs, f a = .ok (v a)) (hq : Q (xs.map v)) : Holds (R.lcR xs (fun _ => .ok true) f) Q := .of (R.lcR_mapOn hl hf) hq
/-- .. with the state: without a test, what each part is -/
theorem holds_lcGS {f : α → σ → R (β × σ)} (I : σ → Prop) (Rel : α → β → Prop) : ∀ (xs : List α) (s : σ), I s → (∀ a ∈ xs, ∀ s, I s → Holds (f a s) fun p => Rel a p.1 ∧ I p.2) → Holds (R.lcGS xs s (fun _ s => .ok (true, s)) f) fun p => (p.1.length = xs.length ∧ ∀ (i : Nat) (a : α) (y : β), xs[i]? = some a → p.1[i]? = some y → Rel a y) ∧ I p.2
  | [], s, h0, _ => holds_ok.mpr ⟨⟨rfl, fun i a y h => by simp at h⟩, h0⟩
  | a :: r, s, h0, h => by
    unfold R.lcGS
    simp only [R.bind2_ok, if_true]
    rw [holds_bind2]
    refine (h a List.mem_cons_self s h0).imp fun p hp => ?_
    rw [holds_bind2]
    refine (holds_lcGS I Rel r p.2 hp.2 fun b hb => h b (List.mem_cons_of_mem _ hb)).imp fun q hq => ?_
    rw [holds_ok]
    refine ⟨⟨by simp [hq.1.1], fun i c y h1 h2 => ?_⟩, hq.2⟩
    cases i with
    | zero =>
      simp at h1 h2
      rw [← h1, ← h2]
      exact hp.1
    | succ i => exact hq.1.2 i c y (by simpa using h1) (by simpa using h2)
theorem holds_lcS {f : α → σ → R (β × σ)} (I : σ → Prop) (Rel : α → β → Prop) {xs : List α} {s : σ} {Q : List β × σ → Prop} (hl : xs.length ≤ 40000) (h0 : I s) (h : ∀ a ∈ xs, ∀ s, I s → Holds (f a s) fun p => Rel a p.1 ∧ I p.2) (hq : ∀ l s', l.length = xs.length → (∀ (i : Nat) (a : α) (y : β), xs[i]? = some a → l[i]? = some y → Rel a y) → I s' → Q (l, s')) : Holds (R.lcS xs s (fun _ s => .ok (true, s)) f) Q := by
  unfold R.lcS
  rw [R.need_pos hl]
  exact (holds_lcGS I Rel xs s h0 h).imp fun p hp => hq p.1 p.2 hp.1.1 hp.1.2 hp.2
/-- .. with a test -/
theorem holds_lcGSf {t : α → σ → R (Bool × σ)} {f : α → σ → R (β × σ)} (I : σ → Prop) (J : List α → List β → Prop) : ∀ (xs pre : List α) (acc : List β) (s : σ), I s → J pre acc → (∀ a ∈ xs, ∀ pre acc s, I s → J pre acc → Holds (t a s) fun p => I p.2 ∧ if p.1 = true then Holds (f a p.2) fun q => I q.2 ∧ J (pre ++ [a]) (acc ++ [q.1]) else J (pre ++ [a]) acc) → Holds (R.lcGS xs s t f) fun p => J (pre ++ xs) (acc ++ p.1) ∧ I p.2
  | [], pre, acc, s, h0, j0, _ => holds_ok.mpr ⟨by simpa using j0, h0⟩
  | a :: r, pre, acc, s, h0, j0, h => by
    unfold R.lcGS
    rw [holds_bind2]
    refine (h a List.mem_cons_self pre acc s h0 j0).imp fun p hp => ?_
    cases e : p.1 with
    | true =>
      rw [e] at hp
      simp only [if_true] at hp ⊢
      rw [holds_bind2]
      refine hp.2.imp fun q hq => ?_
      rw [holds_bind2]
      refine (holds_lcGSf I J r (pre ++ [a]) (acc ++ [q.1]) q.2 hq.1 hq.2 fun b hb => h b (List.mem_cons_of_mem _ hb)).imp fun z hz => ?_
      exact holds_ok.mpr ⟨by have := hz.1; simpa [List.append_assoc] using this, hz.2⟩
    | false =>
      rw [e] at hp
      simp only [Bool.false_eq_true, if_false] at hp ⊢
      refine (holds_lcGSf I J r (pre ++ [a]) acc p.2 hp.1 hp.2 fun b hb => h b (List.mem_cons_of_mem _ hb)).imp fun z hz => ?_
      exact ⟨by have := hz.1; simpa [List.append_assoc] using this, hz.2⟩
theorem holds_lcSf {t : α → σ → R (Bool × σ)} {f : α → σ → R (β × σ)} (I : σ → Prop) (J : List α → List β → Prop) {xs : List α} {s : σ} {Q : List β × σ → Prop} (hl : xs.length ≤ 40000) (h0 : I s) (j0 : J [] []) (h : ∀ a ∈ xs, ∀ pre acc s, I s → J pre acc → Holds (t a s) fun p => I p.2 ∧ if p.1 = true then Holds (f a p.2) fun q => I q.2 ∧ J (pre ++ [a]) (acc ++ [q.1]) else J (pre ++ [a]) acc) (hq : ∀ l s', J xs l → I s' → Q (l, s')) : Holds (R.lcS xs s t f) Q := by
  unfold R.lcS
  rw [R.need_pos hl]
  exact (holds_lcGSf I J xs [] [] s h0 j0 h).imp fun p hp => hq p.1 p.2 (by simpa using hp.1) hp.2
/-- draws -/
theorem holds_draw {d : Dr} {n : Int} {Q : Int × Dr → Prop} (h0 : 0 < n) (h1 : n < 1073741824) (hq : ∀ v d', 0 ≤ v → v < n → Q (v, d')) : Holds (drawR d n) Q := by
  rw [drawR_ok h0 h1, holds_ok]
  exact hq _ _ (drV_ge d h0) (drV_lt d h0)
/-- whiles by a measure -/
theorem holds_while {c : σ → R Bool} {f : σ → R (Ctl σ σ ρ)} {Q : Ctl σ τ ρ → Prop} (I : σ → Nat → Prop) : ∀ (n k : Nat) (s0 : σ), k < n → I s0 k → (∀ s k, I s k → Holds (c s) fun b => if b = true then Holds (f s) (onF (fun s' => ∃ k', k' < k ∧ I s' k') Q) else Q (.nx s)) → Holds (R.whileR n s0 c f) Q
  | 0, k, s0, h, _, _ => absurd h (Nat.not_lt_zero k)
  | n + 1, k, s0, h, h0, hs => by
    have q := hs s0 k h0
    rw [R.whileR]
    cases e : c s0 with
    | ok b =>
      rw [e, holds_ok] at q
      cases b with
      | true =>
        have q : Holds (f s0) _ := q
        cases e2 : f s0 with
        | ok z =>
          rw [e2, holds_ok] at q
          cases z with
          | nx s => obtain ⟨k', hk, hi⟩ := q; exact holds_while I n k' s (by omega) hi hs
          | ct s => obtain ⟨k', hk, hi⟩ := q; exact holds_while I n k' s (by omega) hi hs
          | bk s => exact holds_ok.mpr q
          | rt b => exact holds_ok.mpr q
        | ex x => rw [e2] at q; exact (holds_ex.mp q).elim
        | no => rw [e2] at q; exact (holds_no.mp q).elim
      | false => exact holds_ok.mpr q
    | ex x => rw [e] at q; exact (holds_ex.mp q).elim
    | no => rw [e] at q; exact (holds_no.mp q).elim
end
end Mw

set_option maxHeartbeats 1000000
/-! ### classes -/
namespace Mw
open PySem PySem.Spec PyProof.Rows L2 Qw
open Evl hiding ea_cons
open Pw (Dt Rp RpL Wk R2d R1d RLd RLn Kq KqL none_sub spX2 get_set set_same set_ne)
section
variable {P : Program} {w : World} {K : PySem.W.Frag} {mg : Str → Option Value} {base : Heap} {Rr : List Dt → Rs → Prop}
/-- a method that may raise -/
theorem Mx.ofX {C : Addr} {m q : Str} {ps N : List Str} {st : Stmt} {k : Nat} (D : Dm K C m q ps st) (S : FnScope N ps (defScope st)) (hl : ∀ ds r, Rr ds r → ds.length = ps.length)
    (hb : ∀ (f : Addr) (cdv : Value) (A : Around) (outer : List Env) (s : Shared) (H : Hp) (E : XK), Room k (A.deeper (envOfC q (defScope st) s.heap.objs.size f cdv)) →
      Takes (cxOf (L2.CX P w) P w K mg base N q (defScope st) f cdv A outer s H E) (fun cls d _ H => E cls d H) →
      ∃ t, PSs (cxOf (L2.CX P w) P w K mg base N q (defScope st) f cdv A outer s H E) (defBody st) t ∧ ∀ ds r, Rr ds r → Does P w K E t (ds.map Sl.d ++ List.replicate (N.length - ds.length) Sl.u) r) :
    Mx P w K mg base (k + 1) C m ps (spR P w K Rr) := by
  obtain ⟨f, fd, h1, F, h3⟩ := D
  refine ⟨f, fd, h1, h3, F.ok S (fun vs H Q E h => spR_len hl vs H Q E h) fun cdv A outer s H vs Q E hr h => ?_⟩
  obtain ⟨t, ht, hs⟩ := hb f cdv A outer s H E hr (takes_of rfl rfl rfl rfl)
  exact ⟨t, ht, run_r h hs⟩
end
namespace R
variable {σ τ ρ : Type}
/-- what an __init__ stores -/
def finI : R (Ctl σ τ ρ) → R σ
  | .ok (.nx s) => .ok s
  | .ex x => .ex x
  | _ => .no
end R
section
variable {P : Program} {w : World} {K : PySem.W.Frag} {W : WX} {eX : En} {α β γ δ σ σ' τ ρ : Type} {env env1 env2 : En} {ta tb te tc : TE} {tt tu : TT} {tA tr : TA} {wi : TI} {r : R2} {g : TG} {en : σ → En} {da : α → Dt} {db : β → Dt} {dz : γ → Dt} {C : Addr} {fs : List Str} {ds es : List Dt}
def GotI (K : PySem.W.Frag) (fs : List Str) (m : R β) (ef : β → List Dt) (r : Ri) : Prop := match m with
  | .ok b => r = .f fs (ef b)
  | .ex x => r = .x (x.xn K)
  | .no => False
def RI (K : PySem.W.Frag) (fs : List Str) (ea : α → List Dt) (m : α → R β) (ef : β → List Dt) (ds : List Dt) (r : Ri) : Prop := ∃ a, ds = ea a ∧ GotI K fs (m a) ef r
theorem does_i {E : XK} {s : TS} {p : Addr} {env : En} {m : R (Ctl σ τ ρ)} {eL : τ → En} {out : ρ → Out} {eN : σ → En} {ef : σ → List Dt} {rr : Ri} (h : Sx P w K (WD E) eX eL out s env m eN) (he : ∀ v, (eN v)[0]? = some (.ow (some p) (.ins C fs (ef v)))) (hr : GotI K fs m.finI ef rr) : DoesI P w K E C p s env rr := by
  cases m with
  | ok c =>
    cases c with
    | nx v => rw [show rr = .f fs (ef v) from hr]; exact ⟨_, he v, h⟩
    | rt b => exact False.elim hr
    | ct v => exact False.elim hr
    | bk v => exact False.elim hr
  | ex x => rw [show rr = .x (x.xn K) from hr]; exact ⟨eX, h⟩
  | no => exact False.elim hr
variable {eL : τ → En} {out : ρ → Out} {s s1 s2 : TS} {eN : σ → En}
theorem sx_fld {i : Nat} {t : Option Addr} {n : Str} {m : R α} {k : α → R (Ctl σ τ ρ)} (c : Cls K C) (hn : NoAttr K C n) (h : Xp P w K W eX te env m da) (hi : env[i]? = some (.ow t (.ins C fs ds))) (hc : fs.contains n = false) (hz : fs.length < 900)
    (hk : ∀ a, Sx P w K W eX eL out s2 (env.set i (.ow t (.ins C (fs ++ [n]) (ds ++ [da a])))) (k a) eN) : Sx P w K W eX eL out (tSeq (sFld K (tVar i) te n) s2) env (m.bind k) eN := by
  cases m with
  | ok a => exact sx_seqE (se_fldN c hn (ee_p h) hi hc hz) (hk a)
  | ex x => exact se_seqF (o := .rz W (x.xn K) eX) (fun F0 H0 F H σ D S p => h F0 H0 F H σ S _ fun od F1 H1 e S1 => p od F1 H1 σ e S1)
  | no => trivial
/-! making -/
theorem xo_make {E : XK} {ea : α → List Dt} {m : α → R β} {ef : β → List Dt} {ma : R α} (h : Xa P w K W eX tA env ma ea) {u : β → Ow} (hu : ∀ b, u b = .ins C fs (ef b)) : Xo P w K W eX (tMake C (spI P w K C (RI K fs ea m ef)) [] E tA) env (ma.bind fun a => (m a).nox) u := by
  cases ma with
  | ok a =>
    show Xo P w K W eX _ env (m a).nox u
    cases e : m a with
    | ok c =>
      show EpO P w K _ env (u c)
      rw [hu c]
      exact po_make h ⟨a, rfl, by rw [e]; rfl⟩
    | ex x => trivial
    | no => trivial
  | ex x => exact fun F0 H0 F H σ S Q q => h F0 H0 F H σ S _ q
  | no => trivial
theorem xo_makeX {ea : α → List Dt} {m : α → R β} {ef : β → List Dt} {ma : R α} (h : Xa P w K W eX tA env ma ea) {u : β → Ow} (hu : ∀ b, u b = .ins C fs (ef b)) (hl : Le env eX) : Xo P w K W eX (tMakeS C (spI P w K C (RI K fs ea m ef)) (WE W) tA) env (ma.bind m) u := by
  cases ma with
  | ok a =>
    show Xo P w K W eX _ env (m a) u
    cases e : m a with
    | ok c =>
      show EpO P w K _ env (u c)
      rw [hu c]
      exact po_makeS h ⟨a, rfl, by rw [e]; rfl⟩
    | ex x => exact fun F0 H0 F H σ S Q q => er_makeS h ⟨a, rfl, by rw [e]; rfl⟩ F0 H0 F H σ S Q fun od F' H' e S' => q od F' H' e (S'.le hl)
    | no => trivial
  | ex x => exact fun F0 H0 F H σ S Q q => h F0 H0 F H σ S _ q
  | no => trivial
/-! methods -/
theorem er_meth2 {sp : Sp} {nm : Str} {E : XK} {x : Xn} (h : Ep P w K ta env (.obj C fs es)) (hA : ErA P w K W tA env x eX) (hm : fs.contains nm = false) : Er P w K W (tMeth C nm sp [] E ta tA) env x eX := fun F0 H0 F H σ S Q q => h F0 H0 F H σ S _ fun v F1 H1 k1 r => by
  obtain ⟨a, dx, vs, rfl, h1, h2, h3⟩ := r
  exact ⟨a, dx, _, rfl, k1.s a _ h1, zip_none hm, hA F0 H0 F1 H1 σ (S.wk k1) _ fun od F2 H2 e => q od F2 H2 (k1.f.trans e)⟩
theorem xp_meth {E : XK} {nm : Str} {v : δ} {dA : α → List Dt} {ea : δ × α → List Dt} {m : δ × α → R γ} {er : γ → Rs} {ma : R α} (h : Ep P w K ta env (.obj C fs es)) (hA : Xa P w K W eX tA env ma dA) (hea : ∀ a, ea (v, a) = .obj C fs es :: dA a) (hd : ∀ c, er c = .d (dz c)) (hm : fs.contains nm = false := by decide +kernel) :
    Xp P w K W eX (tMeth C nm (spR P w K (RF K ea m er)) [] E ta tA) env (ma.bind fun a => (m (v, a)).nox) dz := by
  cases ma with
  | ok a =>
    show Xp P w K W eX _ env (m (v, a)).nox dz
    cases e : m (v, a) with
    | ok c => exact ep_meth h hA ⟨(v, a), (hea a).symm, by rw [e]; exact (hd c).symm⟩ hm
    | ex x => trivial
    | no => trivial
  | ex x => exact er_meth2 h hA hm
  | no => trivial
theorem xo_meth {E : XK} {nm : Str} {v : δ} {dA : α → List Dt} {ea : δ × α → List Dt} {m : δ × α → R γ} {er : γ → Rs} {u : γ → Ow} {ma : R α} (h : Ep P w K ta env (.obj C fs es)) (hA : Xa P w K W eX tA env ma dA) (hea : ∀ a, ea (v, a) = .obj C fs es :: dA a) (hd : ∀ c, er c = .o (u c)) (hm : fs.contains nm = false := by decide +kernel) :
    Xo P w K W eX (tMeth C nm (spR P w K (RF K ea m er)) [] E ta tA) env (ma.bind fun a => (m (v, a)).nox) u := by
  cases ma with
  | ok a =>
    show Xo P w K W eX _ env (m (v, a)).nox u
    cases e : m (v, a) with
    | ok c => exact po_meth h hA ⟨(v, a), (hea a).symm, by rw [e]; exact (hd c).symm⟩ hm
    | ex x => trivial
    | no => trivial
  | ex x => exact er_meth2 h hA hm
  | no => trivial
theorem ee_meth {E : XK} {nm : Str} {Rr : List Dt → Rs → Prop} {d : Dt} (h : Ep P w K ta env (.obj C fs ds)) (hA : EeA P w K tA env es env1) (hf : Rr (.obj C fs ds :: es) (.d d)) (hm : fs.contains nm = false) : Ee P w K (tMeth C nm (spR P w K Rr) [] E ta tA) env d env1 := ⟨hA.1, fun F0 H0 F H σ S Q q =>
  h F0 H0 F H σ S _ fun v F1 H1 k1 r => by
    have r' := r
    obtain ⟨a, dx, vs, rfl, h1, h2, h3⟩ := r
    exact ⟨a, dx, _, rfl, k1.s a _ h1, zip_none hm, hA.2 F0 H0 F1 H1 σ (S.wk k1) _ fun us F2 H2 k2 S2 r2 => ⟨F2, _, .d d, S2.sub, by rw [List.append_nil]; exact ⟨_, _, rfl, r'.mono k2.f, r2⟩, hf, fun v F3 H3 k3 r3 => q v F3 H3 (((Wo.of k1).trans Sh.refl k2).trans hA.1 (.of k3)) (S2.wk k3) r3⟩⟩⟩
theorem ye_meth {E : XK} {nm : Str} {v : δ} {dA : α → List Dt} {ea : δ × α → List Dt} {m : δ × α → R γ} {er : γ → Rs} {ma : R (α × σ)} {en : σ → En} (h : Ep P w K ta env (.obj C fs es)) (hA : Ya P w K W eX tA env ma dA en) (hea : ∀ a, ea (v, a) = .obj C fs es :: dA a) (hd : ∀ c, er c = .d (dz c)) (hm : fs.contains nm = false := by decide +kernel) :
    Ye P w K W eX (tMeth C nm (spR P w K (RF K ea m er)) [] E ta tA) env (ma.bind2 fun a s => (m (v, a)).nox.bind fun z => .ok (z, s)) dz en := by
  cases ma with
  | ok p =>
    obtain ⟨a, s⟩ := p
    show Ye P w K W eX _ env ((m (v, a)).nox.bind fun z => .ok (z, s)) dz en
    cases e : m (v, a) with
    | ok c => exact ee_meth h hA ⟨(v, a), (hea a).symm, by rw [e]; exact (hd c).symm⟩ hm
    | ex x => trivial
    | no => trivial
  | ex x => exact er_meth2 h hA hm
  | no => trivial
theorem xp_any {m : R α} (h : Xp P w K W eX te env m da) : Xp P w K W eX te env (m.bind fun a => .ok (da a)) eD := by
  cases m <;> exact h
theorem ye_any {m : R (α × σ)} {en : σ → En} (h : Ye P w K W eX te env m da en) : Ye P w K W eX te env (m.bind2 fun a s => .ok (da a, s)) eD en := by
  cases m <;> exact h
/-! list * int, of a new list -/
def repLR (xs : List α) (k : Int) : R (List α) := R.need (xs.length * k.toNat ≤ 100000 ∧ -(2 ^ 63) ≤ k ∧ k < 2 ^ 63) (.ok (List.replicate k.toNat xs).flatten)
theorem repLR_ok {a : α} {k : Int} (h : 0 ≤ k ∧ k ≤ 100000) : repLR [a] k = .ok (List.replicate k.toNat a) := by
  unfold repLR
  rw [R.need_pos ⟨by simp; omega, by omega, by omega⟩]
  congr 1
  induction k.toNat with
  | zero => rfl
  | succ n ih => rw [List.replicate_succ, List.flatten_cons, ih, List.replicate_succ]; rfl
theorem yo_rep {e : α → Dt} {xs : List α} {m : R (Int × σ)} (h : EpO P w K ta env (oL e xs)) (hk : Ye P w K W eX tb env m eI en) : Yo P w K W eX (tOp rRep ta tb) env (m.bind2 fun k s => (repLR xs k).bind fun z => .ok (z, s)) (oL e) en := by
  cases m with
  | ok p =>
    obtain ⟨k, s⟩ := p
    show Yo P w K W eX _ env ((repLR xs k).bind fun z => .ok (z, s)) (oL e) en
    unfold repLR R.need
    split
    · rename_i hz
      refine ⟨hk.1, fun F0 H0 F H σ S Q q => h F0 H0 F H σ S _ fun p o F1 H1 k1 n1 n2 h1 r1 => ?_⟩
      obtain ⟨vs, rfl, r1⟩ := r1
      have S1 := S.wk k1
      have no : ¬ Own σ env p := S.ownNew n1
      refine hk.2 F0 H0 F1 H1 σ S1 _ fun v F2 H2 k2 S2 r2 => ?_
      cases r2
      refine ⟨p, k, vs, rfl, rfl, k2.h p _ h1 no, hz.2.1, hz.2.2, by rw [← r1.length, List.length_map]; exact sz_of hz.1, fun D hD => ?_⟩
      have kD : Wk F2 H2 F2 (L2.upd H2 D (.lst (List.replicate k.toNat vs).flatten)) := Wk.own S2.sub _ hD
      refine q D _ F2 _ ((Wo.of k1).trans Sh.refl (k2.trans hk.1 (.of kD))) (S2.wk kD) (none_sub k1.h (k2.b D hD)) (none_sub S2.sub hD) upd_same ⟨_, rfl, ?_⟩
      show RpL K F2 (((List.replicate k.toNat xs).flatten).map e) _
      rw [map_repl]
      have r3 := r1.mono k2.f
      clear q kD
      induction k.toNat with
      | zero => exact rfl
      | succ n ih => rw [List.replicate_succ, List.flatten_cons, List.replicate_succ, List.flatten_cons]; exact r3.append ih
    · trivial
  | ex x => exact fun F0 H0 F H σ S Q q => h F0 H0 F H σ S _ fun p o F1 H1 k1 n1 n2 h1 r1 => hk F0 H0 F1 H1 σ (S.wk k1) _ fun od F2 H2 e => q od F2 H2 (k1.f.trans e)
  | no => trivial
theorem xo_rep {e : α → Dt} {xs : List α} {m : R Int} (h : EpO P w K ta env (oL e xs)) (hk : Xp P w K W eX tb env m eI) : Xo P w K W eX (tOp rRep ta tb) env (m.bind fun k => repLR xs k) (oL e) := by
  have hy := yo_rep (W := W) (eX := eX) (en := fun _ : Unit => env) (m := m.bind fun k => .ok (k, ())) h (ye_p (en := fun _ : Unit => env) hk rfl)
  cases m with
  | ok k =>
    show Xo P w K W eX _ env (repLR xs k) (oL e)
    cases q : repLR xs k with
    | ok l =>
      have hy : Yo P w K W eX _ env ((repLR xs k).bind fun z => .ok (z, ())) (oL e) (fun _ : Unit => env) := hy
      rw [q] at hy
      refine fun F0 H0 F H σ S Q q' => h F0 H0 F H σ S _ fun p o F1 H1 k1 n1 n2 h1 r1 => ?_
      unfold repLR R.need at q
      split at q
      · rename_i hz
        cases q
        obtain ⟨vs, rfl, r1⟩ := r1
        refine hk F0 H0 F1 H1 σ (S.wk k1) _ fun v F2 H2 k2 r2 => ?_
        cases r2
        refine ⟨p, k, vs, rfl, rfl, k2.h p _ h1, hz.2.1, hz.2.2, by rw [← r1.length, List.length_map]; exact sz_of hz.1, fun D hD => ?_⟩
        have kD : Wk F2 H2 F2 (L2.upd H2 D (.lst (List.replicate k.toNat vs).flatten)) := Wk.own k2.s _ hD
        refine q' D _ F2 _ ((k1.trans k2).trans kD) (none_sub k1.h (none_sub k2.h hD)) (none_sub k2.s hD) upd_same ⟨_, rfl, ?_⟩
        show RpL K F2 (((List.replicate k.toNat xs).flatten).map e) _
        rw [map_repl]
        have r3 := r1.mono k2.f
        clear q' kD hy
        induction k.toNat with
        | zero => exact rfl
        | succ n ih => rw [List.replicate_succ, List.flatten_cons, List.replicate_succ, List.flatten_cons]; exact r3.append ih
      · cases q
    | ex x =>
      unfold repLR R.need at q
      split at q <;> cases q
    | no => trivial
  | ex x => exact hy
  | no => trivial
end
end Mw

set_option maxHeartbeats 1000000
/-! ### methods that raise; try -/
namespace Qw
open PySem PySem.Spec PyProof.Rows L2 Evl
section
variable {X : Cx} {x m : Str} {C : Addr} {ps : List Str} {sp : Sp} {k : Nat} {e o : Expr} {es : List Expr} {t : TA} {ta : TE} {p pos apos : Pos} {W : WX}
/-- o.m(..), what it lets out wished for at the slots -/
def tMetE (C : Addr) (m : Str) (sp : Sp) (E : L2.St → XK) (ta : TE) (t : TA) : TE := fun σ H Q => ta σ H fun x H1 => ∃ a dx fs, x = V.ref a ∧ H1 a = some (HO.ins C dx fs) ∧ fs.lookup m = none ∧ t σ H1 fun vs H2 => sp (x :: vs) H2 Q (E σ)
theorem pe_mxS {pl : Sem Bool} (F : Mx X.prog X.w X.K X.mg X.base k C m ps sp) (c : Cls X.K C) (hr : Room k X.A) (tk : Takes X W) (ho : PE X o ta) (ha : PA X (e :: es) t)
    (hst : starEach (e :: es) X.env = (false, eval e X.env) :: starEach es X.env := by rfl) (hpl : (backTo pos (starEach es X.env)).any (·.1) = false := by rfl)
    (ht : eval (.Call (.Attribute o m apos) (e :: es) [] pos) X.env = (do
      let z ← eval o X.env
      standAt apos.atName
      let (g, one) ← holding [z] (getMethod z m pl)
      callWith pos g one (backTo pos (starEach (e :: es) X.env)) (backToKw pos (keywordEach [] X.env))) := by rfl) :
    PE X (.Call (.Attribute o m apos) (e :: es) [] pos) (tMetE C m sp (WE W) ta t) := by
  obtain ⟨f, fd, hm, hb, F⟩ := F
  have hb := hb
  refine ⟨fun pins s σ H Q I h => PySem.W.methodCall_KW (pl := pl) (thn (ho.run pins s σ H _ I h) fun u s1 ⟨x, H1, I1, rx, a, dx, fs, ex, ea, l, q⟩ => ?_) ht⟩
  subst ex
  cases (show u = Value.ref a from rx)
  refine getmeth_ok I1 ea c hm l (PySem.W.callWith_K (first := [.ref a]) (h₀ := X.base) I.ok.mod.kin hm.kp (thn (ha.run pos pins s1 σ H1 _ I1 q) fun us s2 ⟨vs, H2, I2, r, q2⟩ => ⟨I2.kIn, ?_⟩) hst hpl)
  exact run_fnS (us := .ref a :: us) (vs := .ref a :: vs) F hr hb (passAt tk σ) I2 (.cons rfl r) q2
theorem pe_mx0S {pl : Sem Bool} (F : Mx X.prog X.w X.K X.mg X.base k C m ps sp) (c : Cls X.K C) (hr : Room k X.A) (tk : Takes X W) (ho : PE X o ta)
    (ht : eval (.Call (.Attribute o m apos) [] [] pos) X.env = (do
      let z ← eval o X.env
      standAt apos.atName
      let (g, one) ← holding [z] (getMethod z m pl)
      callWith pos g one (backTo pos (starEach [] X.env)) (backToKw pos (keywordEach [] X.env))) := by rfl) :
    PE X (.Call (.Attribute o m apos) [] [] pos) (tMetE C m sp (WE W) ta tNil) := by
  obtain ⟨f, fd, hm, hb, F⟩ := F
  refine ⟨fun pins s σ H Q I h => PySem.W.methodCall_KW (pl := pl) (thn (ho.run pins s σ H _ I h) fun u s1 ⟨x, H1, I1, rx, a, dx, fs, ex, ea, l, q⟩ => ?_) ht⟩
  subst ex
  cases (show u = Value.ref a from rx)
  refine getmeth_ok I1 ea c hm l ?_
  exact PySem.W.callWith_K0 (first := [.ref a]) I1.kIn hm.kp (run_fnS (us := [.ref a]) (vs := [.ref a]) F hr hb (passAt tk σ) I1 (.cons rfl .nil) q)
/-- try: .. except c: .. -/
def tTry (K : PySem.W.Frag) (c : Value) (tb : WX → TS) (ts : Addr → Value → Option Addr → TS) (Wout : WX) : TS := fun D σ H => tb (wOnly K c ts Wout D) D σ H
theorem ps_tryO {c : Value} {body suite : List Stmt} {b0 : Stmt} {np pos' : Pos} {tb : WX → TS} {ts : Addr → Value → Option Addr → TS} {Wout : WX} (h1 : X.stack = X.env :: X.outer) (h2 : X.env.frame = some X.env.locals) (hx : Names X x c) (tk : Takes X Wout)
    (hb : ∀ (W : WX) (pn : List (Addr × Obj)) (xe : Value → Shared → Prop), Takes (X.tr pn xe) W → PassesOwn (model X.prog X.w) X.A X.env xe → PSs (X.tr pn xe) body (tb W))
    (hs : ∀ (a : Addr) (oe : Obj) (cls : Value) (d : Option Addr) (pn : List (Addr × Obj)), Zc cls d oe → (∃ vs, oe.data = Data.fields vs) → PSs (X.suite a ((a, oe) :: pn)) (b0 :: suite) (ts a cls d)) :
    PS X (.Try body [.ExceptHandler (some (.Name x np)) none (b0 :: suite) pos'] [] [] pos) (tTry X.K c tb ts Wout) := ps_try_only h1 h2 hx tk hb hs
end
end Qw
namespace Mw
open PySem PySem.Spec PyProof.Rows L2 Qw
open Evl hiding ea_cons
open Pw (Dt Rp RpL Wk R2d R1d RLd RLn Kq KqL none_sub spX2 get_set set_same set_ne)
section
variable {P : Program} {w : World} {K : PySem.W.Frag} {W Wout : WX} {eX eB : En} {α β γ δ σ σ' τ ρ : Type} {env env1 env2 : En} {ta tb te tc : TE} {tt tu : TT} {tA tr : TA} {C : Addr} {fs : List Str} {es : List Dt} {dz : γ → Dt}
theorem ep_metE {E : L2.St → XK} {R : List Dt → Rs → Prop} {m : Str} {d : Dt} {as : List Dt} (h : Ep P w K ta env (.obj C fs es)) (hA : EpA P w K tA env as) (hf : R (.obj C fs es :: as) (.d d)) (hm : fs.contains m = false) : Ep P w K (tMetE C m (spR P w K R) E ta tA) env d := fun F0 H0 F H σ S Q q =>
  h F0 H0 F H σ S _ fun v F1 H1 k1 r => by
    have r' := r
    obtain ⟨a, dx, vs, rfl, h1, h2, h3⟩ := r
    exact ⟨a, dx, _, rfl, k1.s a _ h1, zip_none hm, hA F0 H0 F1 H1 σ (S.wk k1) _ fun us F2 H2 k2 r2 => ⟨F2, .obj C fs es :: as, .d d, k2.s, ⟨_, _, rfl, r'.mono k2.f, r2⟩, hf, fun v F3 H3 k3 r3 => q v F3 H3 ((k1.trans k2).trans k3) r3⟩⟩
theorem po_metE {E : L2.St → XK} {R : List Dt → Rs → Prop} {m : Str} {u : Ow} {as : List Dt} (h : Ep P w K ta env (.obj C fs es)) (hA : EpA P w K tA env as) (hf : R (.obj C fs es :: as) (.o u)) (hm : fs.contains m = false) : EpO P w K (tMetE C m (spR P w K R) E ta tA) env u := fun F0 H0 F H σ S Q q =>
  h F0 H0 F H σ S _ fun v F1 H1 k1 r => by
    have r' := r
    obtain ⟨a, dx, vs, rfl, h1, h2, h3⟩ := r
    exact ⟨a, dx, _, rfl, k1.s a _ h1, zip_none hm, hA F0 H0 F1 H1 σ (S.wk k1) _ fun us F2 H2 k2 r2 => ⟨F2, .obj C fs es :: as, .o u, k2.s, ⟨_, _, rfl, r'.mono k2.f, r2⟩, hf, fun p o F3 H3 k3 n1 n2 h3 r3 => q p o F3 H3 ((k1.trans k2).trans k3) (none_sub (k1.trans k2).h n1) n2 h3 r3⟩⟩
theorem er_metE {R : List Dt → Rs → Prop} {m : Str} {x : Xn} {as : List Dt} (h : Ep P w K ta env (.obj C fs es)) (hA : EpA P w K tA env as) (hf : R (.obj C fs es :: as) (.x x)) (hm : fs.contains m = false) : Er P w K W (tMetE C m (spR P w K R) (WE W) ta tA) env x env := fun F0 H0 F H σ S Q q =>
  h F0 H0 F H σ S _ fun v F1 H1 k1 r => by
    have r' := r
    obtain ⟨a, dx, vs, rfl, h1, h2, h3⟩ := r
    exact ⟨a, dx, _, rfl, k1.s a _ h1, zip_none hm, hA F0 H0 F1 H1 σ (S.wk k1) _ fun us F2 H2 k2 r2 => ⟨F2, .obj C fs es :: as, .x x, k2.s, ⟨_, _, rfl, r'.mono k2.f, r2⟩, hf, fun od F3 H3 k3 r3 => q od F3 H3 ((k1.trans k2).trans k3).f (S.wk ((k1.trans k2).trans k3)) r3⟩⟩
theorem er_metEo {sp : Sp} {E : L2.St → XK} {nm : Str} {x : Xn} (h : Er P w K W ta env x eX) : Er P w K W (tMetE C nm sp E ta tA) env x eX := fun F0 H0 F H σ S Q q => h F0 H0 F H σ S _ q
theorem er_metEa {sp : Sp} {E : L2.St → XK} {nm : Str} {x : Xn} (h : Ep P w K ta env (.obj C fs es)) (hA : ErA P w K W tA env x eX) (hm : fs.contains nm = false) : Er P w K W (tMetE C nm sp E ta tA) env x eX := fun F0 H0 F H σ S Q q => h F0 H0 F H σ S _ fun v F1 H1 k1 r => by
  obtain ⟨a, dx, vs, rfl, h1, h2, h3⟩ := r
  exact ⟨a, dx, _, rfl, k1.s a _ h1, zip_none hm, hA F0 H0 F1 H1 σ (S.wk k1) _ fun od F2 H2 e => q od F2 H2 (k1.f.trans e)⟩
/-- o.m(..) that may raise, o any expression -/
theorem xp_methX {nm : Str} {dO : δ → Dt} {dA : α → List Dt} {ea : δ × α → List Dt} {m : δ × α → R γ} {er : γ → Rs} {mo : R δ} {ma : R α} (h : Xp P w K W eX ta env mo dO) (hA : Xa P w K W eX tA env ma dA) (hO : ∀ v, ∃ es, dO v = .obj C fs es) (hea : ∀ v a, ea (v, a) = dO v :: dA a) (hd : ∀ c, er c = .d (dz c)) (hl : Le env eX) (hm : fs.contains nm = false := by decide +kernel) :
    Xp P w K W eX (tMetE C nm (spR P w K (RF K ea m er)) (WE W) ta tA) env (mo.bind fun v => ma.bind fun a => m (v, a)) dz := by
  cases mo with
  | ok v =>
    obtain ⟨es, e0⟩ := hO v
    have h' : Ep P w K ta env (dO v) := h
    rw [e0] at h'
    cases ma with
    | ok a =>
      have hz : ea (v, a) = .obj C fs es :: dA a := by rw [hea, e0]
      show Xp P w K W eX _ env (m (v, a)) dz
      cases e : m (v, a) with
      | ok c => exact ep_metE h' hA ⟨(v, a), hz.symm, by rw [e]; exact (hd c).symm⟩ hm
      | ex x => exact fun F0 H0 F H σ S Q q => er_metE h' hA ⟨(v, a), hz.symm, by rw [e]; rfl⟩ hm F0 H0 F H σ S Q fun od F' H' e S' => q od F' H' e (S'.le hl)
      | no => trivial
    | ex x => exact er_metEa h' hA hm
    | no => trivial
  | ex x => exact er_metEo h
  | no => trivial
theorem xo_methX {nm : Str} {dO : δ → Dt} {dA : α → List Dt} {ea : δ × α → List Dt} {m : δ × α → R γ} {er : γ → Rs} {mo : R δ} {ma : R α} {u : γ → Ow} (h : Xp P w K W eX ta env mo dO) (hA : Xa P w K W eX tA env ma dA) (hO : ∀ v, ∃ es, dO v = .obj C fs es) (hea : ∀ v a, ea (v, a) = dO v :: dA a) (hd : ∀ c, er c = .o (u c)) (hl : Le env eX) (hm : fs.contains nm = false := by decide +kernel) :
    Xo P w K W eX (tMetE C nm (spR P w K (RF K ea m er)) (WE W) ta tA) env (mo.bind fun v => ma.bind fun a => m (v, a)) u := by
  cases mo with
  | ok v =>
    obtain ⟨es, e0⟩ := hO v
    have h' : Ep P w K ta env (dO v) := h
    rw [e0] at h'
    cases ma with
    | ok a =>
      have hz : ea (v, a) = .obj C fs es :: dA a := by rw [hea, e0]
      show Xo P w K W eX _ env (m (v, a)) u
      cases e : m (v, a) with
      | ok c => exact po_metE h' hA ⟨(v, a), hz.symm, by rw [e]; exact (hd c).symm⟩ hm
      | ex x => exact fun F0 H0 F H σ S Q q => er_metE h' hA ⟨(v, a), hz.symm, by rw [e]; rfl⟩ hm F0 H0 F H σ S Q fun od F' H' e S' => q od F' H' e (S'.le hl)
      | no => trivial
    | ex x => exact er_metEa h' hA hm
    | no => trivial
  | ex x => exact er_metEo h
  | no => trivial
/-! try -/
/-- what is raised of the classes cs is caught -/
def R.catch (cs : List Str) (m h : R (Ctl σ τ ρ)) : R (Ctl σ τ ρ) := match m with
  | .ex x => if cs.contains x.C = true then h else .no
  | m => m
@[simp] theorem catch_ok {cs : List Str} {c : Ctl σ τ ρ} {h : R (Ctl σ τ ρ)} : R.catch cs (.ok c) h = .ok c := rfl
theorem se_tryE {o : Out} {tb : WX → TS} {ts : Addr → Value → Option Addr → TS} {c : Value} {x : Xn} {e1 : En} (h : ∀ W, Se P w K (tb W) env (.rz W x e1)) (hm : PySem.W.exmOne K (.ref x.C) c = some true)
    (hs : ∀ a od, Se P w K (ts a (.ref x.C) od) e1 o) : Se P w K (tTry K c tb ts Wout) env o := fun F0 H0 F H σ D S p => by
  refine h _ F0 H0 F H σ D S fun od F1 H1 σ1 ex S1 hx => ?_
  exact ⟨true, hm, fun _ a ha => hs a od F0 H0 F1 H1 σ1 D S1 (p.ex ex), fun z => nomatch z⟩
theorem sx_try {eL : τ → En} {out : ρ → Out} {eN : σ → En} {tb : WX → TS} {ts : Addr → Value → Option Addr → TS} {c : Value} {m h : R (Ctl σ τ ρ)} (cs : List Str) (hb : ∀ W, Sx P w K W eB eL out (tb W) env m eN) (hm : ∀ C ∈ cs, PySem.W.exmOne K (.ref (He.ga K C)) c = some true)
    (hs : ∀ a v od, Sx P w K W eX eL out (ts a v od) eB h eN) : Sx P w K W eX eL out (tTry K c tb ts Wout) env (R.catch cs m h) eN := by
  cases m with
  | ok q => cases q <;> exact fun F0 H0 F H σ D S p => hb _ F0 H0 F H σ D S p
  | ex x =>
    show Sx P w K W eX eL out _ env (if cs.contains x.C = true then h else .no) eN
    split
    · rename_i hc
      have hc' := hm x.C (List.contains_iff_mem.mp hc)
      cases h with
      | ok q => cases q <;> exact se_tryE hb hc' fun a od => hs a _ od
      | ex y => exact se_tryE hb hc' fun a od => hs a _ od
      | no => trivial
    · trivial
  | no => trivial
/-- x += e of ints -/
theorem se_augI {i : Nat} {f : Int → Int → Int} {a b : Int} (hi : env[i]? = some (.d (.int a))) (h : Ep P w K te env (.int b)) : Se P w K (tAug i te (ipI f)) env (.nx (env.set i (.d (.int (f a b))))) := fun F0 H0 F H σ D S p => by
  obtain ⟨_, e1, v, rfl, r1⟩ := S.sl i _ hi
  refine ⟨v, e1, h F0 H0 F H σ S _ fun u F1 H1 k r => ⟨a, b, r1, r, ?_⟩⟩
  exact (ge_name (i := i) (d := .int (f a b))) F0 H0 F1 H1 σ (V.int (f a b)) (S.wk k) rfl _ fun F' H' σ' e S' => p F' H' σ' (k.f.trans e) S'
theorem sx_augI {i : Nat} {f : Int → Int → Int} {a b : Int} {eL : τ → En} {out : ρ → Out} {eN : σ → En} {s2 : TS} {m : R (Ctl σ τ ρ)} (hi : env[i]? = some (.d (.int a))) (h : Ep P w K te env (.int b)) (h2 : Sx P w K W eX eL out s2 (env.set i (.d (.int (f a b)))) m eN) : Sx P w K W eX eL out (tSeq (tAug i te (ipI f)) s2) env m eN := sx_seqE (se_augI hi h) h2
theorem sx_forYd {tb : TS} {wi : TI} {g : TG} {d : α → Dt} {eL : τ → En} {out : ρ → Out} {eN : σ → En} {s2 : TS} {eS : δ → σ' → En} {en : δ → En} {f : δ → σ' → α → R (Ctl σ' σ' ρ)} {v0 : δ → σ'} {mi : R (List α × δ)} {k : δ → σ' → R (Ctl σ τ ρ)} (ho : OutOk out) (hI : Yi P w K W eX wi env mi d en) (h0 : ∀ v, Le (en v) (eS v (v0 v)))
    (hb : ∀ t v a, ∃ e1, Ge P w K g (d a) (eS t v) e1 ∧ Sx P w K W eX (eS t) out tb e1 (f t v a) (eS t)) (hk : ∀ t v, Sx P w K W eX eL out s2 (eS t v) (k t v) eN) : Sx P w K W eX eL out (tSeq (tFor wi g tb) s2) env (mi.bind2 fun xs v => (R.forR xs (v0 v) (f v)).bindC (k v)) eN := by
  cases mi with
  | ok p => exact sx_seq (fun b => (ho b).1) (sx_forC ho (IeW.ie hI) (h0 p.2) (hb p.2)) (hk p.2)
  | ex x => exact se_seqF (fun F0 H0 F H σ D S p => hI F0 H0 F H σ S _ fun od F1 H1 e S1 => p od F1 H1 σ e S1)
  | no => trivial
theorem holds_catch {cs : List Str} {m h : R (Ctl σ τ ρ)} {Q : Ctl σ τ ρ → Prop} (hm : Holds m Q) : Holds (R.catch cs m h) Q := by
  obtain ⟨a, e, q⟩ := hm.ex
  rw [e]
  exact holds_ok.mpr q
theorem holds_caught {cs : List Str} {m h : R (Ctl σ τ ρ)} {x : Exn} {Q : Ctl σ τ ρ → Prop} (hm : m = .ex x) (hc : cs.contains x.C = true) (hq : Holds h Q) : Holds (R.catch cs m h) Q := by
  rw [hm]
  show Holds (if _ then _ else _) Q
  rw [if_pos hc]
  exact hq
end
end Mw

set_option maxHeartbeats 1000000
/-! ### casts, strings -/
namespace Mw
open PySem PySem.Spec PyProof.Rows L2 Qw
open Evl hiding ea_cons
open Pw (Dt Rp RpL Wk R2d R1d RLd RLn Kq KqL none_sub spX2 get_set set_same set_ne)
section
variable {P : Program} {w : World} {K : PySem.W.Frag} {W : WX} {eX : En} {α β γ δ σ σ' τ ρ : Type} {env env1 env2 : En} {ta tb te tc : TE} {tt tu : TT} {tA tr : TA}
def R.ofO (o : Option α) : R α := match o with
  | some a => .ok a
  | none => .no
def asI : Dt → Option Int
  | .int i => some i
  | _ => none
def asS : Dt → Option Str
  | .str s => some s
  | _ => none
def asMap (f : Dt → Option α) : List Dt → Option (List α)
  | [] => some []
  | d :: ds => match f d, asMap f ds with
    | some a, some l => some (a :: l)
    | _, _ => none
def asL (f : Dt → Option α) : Dt → Option (List α)
  | .lst ds => asMap f ds
  | _ => none
def asT (f : Dt → Option α) : Dt → Option (List α)
  | .tup ds => asMap f ds
  | _ => none
/-- what a cast gives, it was -/
def AsOk (f : Dt → Option α) (e : α → Dt) : Prop := ∀ d a, f d = some a ↔ d = e a
theorem as_int : AsOk asI eI := fun d a => by
  cases d <;> simp [asI, eI]
theorem as_str : AsOk asS eS := fun d a => by
  cases d <;> simp [asS, eS]
theorem as_map {f : Dt → Option α} {e : α → Dt} (h : AsOk f e) : ∀ ds l, asMap f ds = some l ↔ ds = l.map e
  | [], l => by cases l <;> simp [asMap]
  | d :: ds, l => by
    have ih := as_map h ds
    unfold asMap
    cases e1 : f d with
    | none =>
      cases l with
      | nil => simp
      | cons a l =>
        have : ¬ d = e a := fun z => by rw [(h d a).mpr z] at e1; cases e1
        simp [this]
    | some a =>
      have ha := (h d a).mp e1
      have hne : ∀ b, d = e b → a = b := fun b z => Option.some.inj (e1.symm.trans ((h d b).mpr z))
      cases e2 : asMap f ds with
      | none =>
        cases l with
        | nil => simp
        | cons b l =>
          have : ¬ ds = l.map e := fun z => by rw [(ih l).mpr z] at e2; cases e2
          simp [this]
      | some m =>
        have hm := (ih m).mp e2
        have hme : ∀ l, ds = l.map e → m = l := fun l z => Option.some.inj (e2.symm.trans ((ih l).mpr z))
        cases l with
        | nil => simp
        | cons b l =>
          simp only [Option.some.injEq, List.cons.injEq, List.map_cons]
          exact ⟨fun ⟨x, y⟩ => by subst x; subst y; exact ⟨ha, hm⟩, fun ⟨x, y⟩ => ⟨hne b x, hme l y⟩⟩
theorem as_list {f : Dt → Option α} {e : α → Dt} (h : AsOk f e) : AsOk (asL f) (eL e) := fun d a => by
  cases d <;> first | (simp [asL, eL]; done) | skip
  rename_i ds
  show asMap f ds = some a ↔ Dt.lst ds = .lst (a.map e)
  rw [as_map h]
  exact ⟨fun z => by rw [z], fun z => Dt.lst.inj z⟩
theorem as_tup {f : Dt → Option α} {e : α → Dt} (h : AsOk f e) : AsOk (asT f) (eT e) := fun d a => by
  cases d <;> first | (simp [asT, eT]; done) | skip
  rename_i ds
  show asMap f ds = some a ↔ Dt.tup ds = .tup (a.map e)
  rw [as_map h]
  exact ⟨fun z => by rw [z], fun z => Dt.tup.inj z⟩
theorem AsOk.mk {f : Dt → Option α} {e : α → Dt} (h : AsOk f e) (a : α) : f (e a) = some a := (h _ _).mpr rfl
theorem set_self {i : Nat} {s : Sl} (h : env[i]? = some s) : env.set i s = env := by
  apply List.ext_getElem?
  intro j
  rw [List.getElem?_set]
  split
  · rename_i e
    subst e
    rw [h]
    have := (List.getElem?_eq_some_iff.mp h).1
    simp [this]
  · rfl
theorem sx_cast {i : Nat} {f : Dt → Option α} {e : α → Dt} {d : Dt} {eL : τ → En} {out : ρ → Out} {s : TS} {k : α → R (Ctl σ τ ρ)} {eN : σ → En} (ok : AsOk f e) (hi : env[i]? = some (.d d)) (h : ∀ a, Sx P w K W eX eL out s (env.set i (.d (e a))) (k a) eN) : Sx P w K W eX eL out s env ((R.ofO (f d)).bind k) eN := by
  cases z : f d with
  | none => trivial
  | some a =>
    have hd := (ok d a).mp z
    have := h a
    rw [← hd, set_self hi] at this
    exact this
theorem xp_cast {f : Dt → Option α} {e : α → Dt} {d : Dt} (ok : AsOk f e) (h : Ep P w K te env d) : Xp P w K W eX te env (R.ofO (f d)) e := by
  cases z : f d with
  | none => trivial
  | some a =>
    have hd := (ok d a).mp z
    rw [hd] at h
    exact h
theorem xp_castM {f : Dt → Option α} {e : α → Dt} {m : R Dt} (ok : AsOk f e) (h : Xp P w K W eX te env m eD) : Xp P w K W eX te env (m.bind fun d => R.ofO (f d)) e := by
  cases m with
  | ok d => exact xp_cast ok h
  | ex x => exact h
  | no => trivial
/-! strings -/
def strI (i : Int) : Str := Str.ofString (toString i)
def strR (i : Int) : R Str := R.need (i.natAbs < 1000000) (.ok (strI i))
theorem xp_str {i : Int} (h : Ep P w K te env (eI i)) : Xp P w K W eX (tCB (fun xs H Q => ∃ j, xs = [V.int j] ∧ j.natAbs.log2 < 1920 ∧ Q (.str (toString j)) H) (tCons te tNil)) env (strR i) eS := by
  unfold strR R.need
  split
  · rename_i hi
    exact ep_cb (ap_cons h ap_nil) (rl_strI hi)
  · trivial
theorem xp_strM {m : R Int} (h : Xp P w K W eX te env m eI) : Xp P w K W eX (tCB (fun xs H Q => ∃ j, xs = [V.int j] ∧ j.natAbs.log2 < 1920 ∧ Q (.str (toString j)) H) (tCons te tNil)) env (m.bind strR) eS := by
  cases m with
  | ok i => exact xp_str h
  | ex x => exact er_cb (era_1 h)
  | no => trivial
def addSR (v w : Str) : R Str := R.need (v.length + w.length ≤ 100000) (.ok (v ++ w))
theorem rm_addS {v w : Str} : R2m K (fun x y H Q => ∃ i j, x = V.str i ∧ y = V.str j ∧ i.length + j.length ≤ sizeLine ∧ Q (.str (i ++ j)) H) (eS v) (eS w) (addSR v w) eS := rm_need fun h => Pw.r2_addS h
/-! tuple(range(a, b)); sorted(.., reverse=True) -/
theorem ints_rp {F : Hp} : ∀ ns : List Int, RpL K F (ns.map eI) (ns.map V.int)
  | [] => rfl
  | n :: ns => ⟨V.int n, ns.map V.int, rfl, rfl, ints_rp ns⟩
theorem rp_ints {F : Hp} : ∀ {ns : List Int} {vs : List V}, RpL K F (ns.map eI) vs → vs = ns.map V.int
  | [], vs, h => h
  | n :: ns, vs, h => by
    obtain ⟨v, us, rfl, h1, h2⟩ := h
    rw [show v = V.int n from h1, rp_ints h2]
    rfl
def tupRg (a b : Int) : R (List Int) := R.need (-100000 ≤ a ∧ a ≤ 100000 ∧ -100000 ≤ b ∧ b ≤ 100000) (.ok (rangeI a (b - a).toNat))
theorem xp_tupRg {a b : Int} (ha : Ep P w K ta env (eI a)) (hb : Ep P w K tb env (eI b)) : Xp P w K W eX (tTupRg (tRg2 ta tb)) env (tupRg a b) (eT eI) := by
  unfold tupRg R.need
  split
  · rename_i hc
    show Ep P w K _ env (.tup ((rangeI a (b - a).toNat).map eI))
    intro F0 H0 F H σ S Q q
    refine ha F0 H0 F H σ S _ fun x F1 H1 k1 r1 => hb F0 H0 F1 H1 σ (S.wk k1) _ fun y F2 H2 k2 r2 => ⟨a, b, r1, r2, ⟨by omega, by omega, by omega, by omega, by omega⟩, fun p hp => ?_⟩
    refine q (.ref p) (L2.upd F2 p (.tup (rgV a b))) _ ((k1.trans k2).trans (Wk.new k2.s _ hp)) ⟨p, rgV a b, rfl, SqT.of upd_same, ?_⟩
    have e : rgV a b = (rangeI a (b - a).toNat).map V.int := by
      unfold rgV rangeI
      rw [List.map_map]
      rfl
    rw [e]
    exact ints_rp _
  · trivial
def sortD (l : List Int) : List Int := l.mergeSort fun a b => decide (b ≤ a)
theorem sortD_perm (l : List Int) : (sortD l).Perm l := List.mergeSort_perm _ _
theorem sortD_pw (l : List Int) : (sortD l).Pairwise (· ≥ ·) := by
  have := List.pairwise_mergeSort (le := fun a b : Int => decide (b ≤ a)) (fun a b c h1 h2 => by simp at h1 h2 ⊢; omega) (fun a b => by simp; omega) l
  exact this.imp fun h => by simpa using h
theorem sortD_uniq {l m : List Int} (hp : m.Perm l) (hw : m.Pairwise (· ≥ ·)) : m = sortD l :=
  List.Perm.eq_of_pairwise (fun a b _ _ h1 h2 => by omega) hw (sortD_pw l) (hp.trans (sortD_perm l).symm)
theorem np_sortD {l : List Int} (h : Ep P w K te env (eL eI l)) : EpN P w K (tCKw (rSortedKw K true [V.bl true]) (tCons te tNil) (tCons (tC (.bl true)) tNil)) env ((sortD l).map eI) := fun F0 H0 F H σ S Q q =>
  h F0 H0 F H σ S _ fun v F1 H1 k1 r1 => by
    obtain ⟨a, vs, rfl, h1, h2⟩ := r1
    have e := rp_ints h2
    subst e
    refine ⟨a, l, rfl, rfl, ex_l k1.s h1, fun ns p hp ho hn => ?_⟩
    have := sortD_uniq hp ho
    subst this
    exact q p _ F1 _ (k1.trans (Wk.own k1.s _ hn)) (fresh_back k1.h hn) (none_sub k1.s hn) upd_same (ints_rp _)
theorem xo_sortD {l : List Int} (h : Ep P w K te env (eL eI l)) : Xo P w K W eX (tCKw (rSortedKw K true [V.bl true]) (tCons te tNil) (tCons (tC (.bl true)) tNil)) env (.ok (sortD l)) (oL eI) := xo_v (po_n (np_sortD h))
end
end Mw

set_option maxHeartbeats 1000000
/-! ### try .. except .. as n -/
namespace Qw
open PySem PySem.Spec PyProof.Rows L2 Evl
section
variable {X : Cx} {x m : Str} {W : WX}
def tTryA (K : PySem.W.Frag) (c : Value) (i : Nat) (tb : WX → TS) (ts : Addr → Value → Option Addr → TS) (Wout : WX) : TS := fun D σ H => tb (wAs K c i ts Wout D) D σ H
theorem ps_tryA {n : Str} {c : Value} {i : Nat} {body suite : List Stmt} {b0 : Stmt} {np pos pos' : Pos} {tb : WX → TS} {ts : Addr → Value → Option Addr → TS} {Wout : WX} (h1 : X.stack = X.env :: X.outer) (h2 : X.env.frame = some X.env.locals) (hN : X.N.Nodup) (hi : X.N[i]? = some n) (hk : X.env.kindOf n = some .local) (hx : Names X x c) (tk : Takes X Wout)
    (hb : ∀ (W : WX) (pn : List (Addr × Obj)) (xe : Value → Shared → Prop), Takes (X.tr pn xe) W → PassesOwn (model X.prog X.w) X.A X.env xe → PSs (X.tr pn xe) body (tb W))
    (hs : ∀ (a : Addr) (oe : Obj) (cls : Value) (d : Option Addr) (pn : List (Addr × Obj)), Zc cls d oe → (∃ vs, oe.data = Data.fields vs) → PSs (X.suite a ((a, oe) :: pn)) (b0 :: suite) (ts a cls d)) :
    PS X (.Try body [.ExceptHandler (some (.Name x np)) (some n) (b0 :: suite) pos'] [] [] pos) (tTryA X.K c i tb ts Wout) := ps_try_as h1 h2 hN hi hk hx tk hb hs
/-- isinstance(n, c) in the suite -/
def tIsX (K : PySem.W.Frag) (D : Addr) (a : Addr) (cls : Value) (d : Option Addr) (t : TA) : TE := fun σ H Q => (cls = .ref D ∧ d = none) ∧ tCB (rIsE K D a) t σ H Q
theorem pe_isX {a D : Addr} {oe : Obj} {cls : Value} {d : Option Addr} {pn : List (Addr × Obj)} {e : Expr} {es : List Expr} {t : TA} {p pos : Pos} (hz : Zc cls d oe) (hf : ∃ vs, oe.data = Data.fields vs) (C : L2.ExcC X.K D) (hg : Gl (X.suite a ((a, oe) :: pn)) "isinstance") (hm : X.mg "isinstance" = none) (ha : PA (X.suite a ((a, oe) :: pn)) (e :: es) t)
    (he : starEach (e :: es) (X.suite a ((a, oe) :: pn)).env = (false, eval e (X.suite a ((a, oe) :: pn)).env) :: starEach es (X.suite a ((a, oe) :: pn)).env := by rfl) (hpl : (backTo pos (starEach es (X.suite a ((a, oe) :: pn)).env)).any (·.1) = false := by rfl) :
    PE (X.suite a ((a, oe) :: pn)) (.Call (.Name "isinstance" p) (e :: es) [] pos) (tIsX X.K D a cls d t) := ⟨fun pins s σ H Q I h => by
  obtain ⟨⟨rfl, rfl⟩, h⟩ := h
  exact (pe_callB (call_isE C hz hf) hg hm (by decide +kernel) ha (by decide) (by decide) he hpl).run pins s σ H Q I h⟩
end
end Qw
namespace Mw
open PySem PySem.Spec PyProof.Rows L2 Qw
open Evl hiding ea_cons
open Pw (Dt Rp RpL Wk R2d R1d RLd RLn Kq KqL none_sub spX2 get_set set_same set_ne)
section
variable {P : Program} {w : World} {K : PySem.W.Frag} {W Wout : WX} {eX eBd : En} {α β γ δ σ σ' τ ρ : Type} {env env1 env2 : En} {ta tb te tc : TE} {tt tu : TT} {tA tr : TA}
/-- isinstance(n, c) of what is known to be of the class C, made from a text -/
theorem ep_isX {C : Addr} {a : Addr} {od : Option Addr} {x : Xn} {i : Nat} {B : Addr} {b : Bool} (hi : env[i]? = some (.ex a od x)) (hC : x.C = C) (hf : x.fs = []) (hk : PySem.W.kitOne K (.ref C) (.ref B) = some b) : Ep P w K (tIsX K C a (.ref x.C) od (tCons (tVar i) (tCons (tC (.ref B)) tNil))) env (eB b) := fun F0 H0 F H σ S Q q => by
  obtain ⟨_, h1, rfl, hx⟩ := S.sl i _ hi
  have hd : od = none := by
    rcases hx with ⟨_, z⟩ | ⟨_, _, z, _⟩
    · exact z
    · exact absurd hf z
  refine ⟨⟨by rw [hC], hd⟩, V.ref a, h1, ?_⟩
  exact ⟨V.ref B, .ref B, b, rfl, fun u r => r, hk, q _ F H (Wk.refl S.sub) rfl⟩
/-- what is raised of the classes cs is caught; the suite returns -/
def R.catchA (cs : List Str) (m h : R (Ctl σ τ ρ)) : R (Ctl σ τ ρ) := match m with
  | .ex x => if cs.contains x.C = true ∧ x.fs = [] then (match h with | .ok (.rt b) => .ok (.rt b) | _ => .no) else .no
  | m => m
theorem sx_tryA {eL : τ → En} {out : ρ → Out} {eN : σ → En} {tb : WX → TS} {ts : Addr → Value → Option Addr → TS} {c : Value} {n : Nat} {m h : R (Ctl σ τ ρ)} (cs : List Str) (ho : ∀ b, (∃ d, out b = .rt d) ∨ ∃ u, out b = .ro u) (hb : ∀ W, Sx P w K W eBd eL out (tb W) env m eN) (hn : n < eBd.length) (hm : ∀ C ∈ cs, PySem.W.exmOne K (.ref (He.ga K C)) c = some true)
    (hs : ∀ a od (x : Xn), (∃ C ∈ cs, x.C = He.ga K C) → x.fs = [] → Sx P w K W eX eL out (ts a (.ref x.C) od) (eBd.set n (.ex a od x)) h eN) : Sx P w K W eX eL out (tTryA K c n tb ts Wout) env (R.catchA cs m h) eN := by
  cases m with
  | ok q => cases q <;> exact fun F0 H0 F H σ D S p => hb _ F0 H0 F H σ D S p
  | ex x =>
    show Sx P w K W eX eL out _ env (if cs.contains x.C = true ∧ x.fs = [] then _ else .no) eN
    split
    · rename_i hc
      have hmem := List.contains_iff_mem.mp hc.1
      have hc' := hm x.C hmem
      cases h with
      | ok q =>
        cases q with
        | rt b =>
          have hs' : ∀ a od, Se P w K (ts a (.ref (x.xn K).C) od) (eBd.set n (.ex a od (x.xn K))) (out b) := fun a od => hs a od (x.xn K) ⟨x.C, hmem, rfl⟩ hc.2
          show Se P w K _ env (out b)
          rcases ho b with ⟨d, hd⟩ | ⟨u, hd⟩
          · rw [hd] at hs' ⊢
            exact se_try_as (Wout := Wout) (e2 := env) (o := .rt d) hb hc' hs' (.inl ⟨d, rfl⟩) hn
          · rw [hd] at hs' ⊢
            exact se_try_as (Wout := Wout) (e2 := env) (o := .ro u) hb hc' hs' (.inr (.inr ⟨u, rfl⟩)) hn
        | nx v => trivial
        | ct v => trivial
        | bk v => trivial
      | ex y => trivial
      | no => trivial
    · trivial
  | no => trivial
theorem rm_ixD {xs : List Dt} {i : Int} : R2m K (rIxL K) (.lst xs) (eI i) (ixR xs i) eD := by
  have h := rm_ixL (K := K) (e := eD) (xs := xs) (i := i)
  have e : eL eD xs = .lst xs := by
    show Dt.lst (xs.map eD) = _
    rw [show (eD : Dt → Dt) = id from rfl, List.map_id]
  rw [e] at h
  exact h
end
end Mw

set_option maxHeartbeats 1000000
/-! ### extend, ranges with a step, divmod, reversed -/
namespace Mw
open PySem PySem.Spec PyProof.Rows L2 Qw
open Evl hiding ea_cons
open Pw (Dt Rp RpL Wk R2d R1d RLd RLn Kq KqL none_sub spX2 get_set set_same set_ne Wl)
section
variable {P : Program} {w : World} {K : PySem.W.Frag} {W : WX} {eX : En} {α β γ δ σ σ' τ ρ : Type} {env env1 env2 : En} {ta tb te tc : TE} {tt tu : TT} {tA tr : TA} {da : α → Dt} {db : β → Dt} {en : σ → En}
theorem se_ext {i : Nat} {t' : Option Addr} {xs ys : List Dt} (hi : env[i]? = some (.ow t' (.lst xs))) (h : EnO P w K te env (.lst ys) env1) (hi1 : env1[i]? = some (.ow t' (.lst xs)) := by rfl) (hz : xs.length + ys.length ≤ 100000) : Se P w K (tDrop (tBM K "list" rExtend (tVar i) (tCons te tNil))) env (.nx (env1.set i (.ow t' (.lst (xs ++ ys))))) := fun F0 H0 F H σ D S p => by
  obtain ⟨a, ho, h1, g0, g1, g2, g3, vs, rfl, g4⟩ := S.own hi
  refine ⟨_, h1, .inl ⟨rfl, vs, sq_of g3⟩, h.2 F0 H0 F H σ S _ fun b o F1 H1 k S1 n1 n2 hb r => ?_⟩
  obtain ⟨zs, rfl, r⟩ := r
  obtain ⟨b', ho', e1, f0, f1, f2, f3, us, rfl, f4⟩ := S1.own hi1
  rw [h1] at e1
  cases e1
  refine ⟨a, b, us, zs, rfl, rfl, f3, hb, sz_of (by rw [← f4.length, ← r.length]; exact hz), p F1 _ σ k.f (S1.mut hi1 h1 ⟨_, rfl, RpL.append f4 r⟩)⟩
variable {eL : τ → En} {out : ρ → Out} {s2 : TS} {eN : σ' → En}
theorem ow_app {e : α → Dt} {xs ys : List α} : (oL e (xs ++ ys)) = Ow.lst (xs.map e ++ ys.map e) := by show Ow.lst _ = _; rw [List.map_append]
theorem sx_ext {e : α → Dt} {i : Nat} {t' : Option Addr} {xs : List α} {m : R (List α)} {k : List α → R (Ctl σ' τ ρ)} (hi : env[i]? = some (.ow t' (oL e xs))) (h : Xo P w K W eX te env m (oL e)) (hk : ∀ a, Sx P w K W eX eL out s2 (env.set i (.ow t' (oL e (xs ++ a)))) (k a) eN) : Sx P w K W eX eL out (tSeq (tDrop (tBM K "list" rExtend (tVar i) (tCons te tNil))) s2) env (m.bind fun a => R.need (xs.length + a.length ≤ 100000) (k a)) eN := by
  cases m with
  | ok a =>
    show Sx P w K W eX eL out _ env (R.need _ (k a)) eN
    by_cases hz : xs.length + a.length ≤ 100000
    · rw [R.need_pos hz]
      have hk := hk a
      rw [ow_app] at hk
      exact sx_seqE (se_ext hi (eo_p h) hi (by simpa using hz)) hk
    · rw [R.need, if_neg hz]
      trivial
  | ex x =>
    refine se_seqF (se_dropX (x := x.xn K) fun F0 H0 F H σ S Q q => ?_)
    obtain ⟨p0, o0, e0, g0, g1, g2, g3, vs, rfl, g4⟩ := S.own hi
    exact ⟨_, e0, .inl ⟨rfl, vs, sq_of g3⟩, h F0 H0 F H σ S _ q⟩
  | no => trivial
theorem sx_extY {e : α → Dt} {i : Nat} {t' : Option Addr} {xs : List α} {m : R (List α × σ)} {k : List α → σ → R (Ctl σ' τ ρ)} (hi : env[i]? = some (.ow t' (oL e xs))) (hi1 : ∀ v, (en v)[i]? = some (.ow t' (oL e xs))) (h : Yo P w K W eX te env m (oL e) en) (hk : ∀ a v, Sx P w K W eX eL out s2 ((en v).set i (.ow t' (oL e (xs ++ a)))) (k a v) eN) : Sx P w K W eX eL out (tSeq (tDrop (tBM K "list" rExtend (tVar i) (tCons te tNil))) s2) env (m.bind2 fun a v => R.need (xs.length + a.length ≤ 100000) (k a v)) eN := by
  cases m with
  | ok p =>
    show Sx P w K W eX eL out _ env (R.need _ (k p.1 p.2)) eN
    by_cases hz : xs.length + p.1.length ≤ 100000
    · rw [R.need_pos hz]
      have hk := hk p.1 p.2
      rw [ow_app] at hk
      exact sx_seqE (se_ext hi h (hi1 p.2) (by simpa using hz)) hk
    · rw [R.need, if_neg hz]
      trivial
  | ex x =>
    refine se_seqF (se_dropX (x := x.xn K) fun F0 H0 F H σ S Q q => ?_)
    obtain ⟨p0, o0, e0, g0, g1, g2, g3, vs, rfl, g4⟩ := S.own hi
    exact ⟨_, e0, .inl ⟨rfl, vs, sq_of g3⟩, h F0 H0 F H σ S _ q⟩
  | no => trivial
end
section
variable {P : Program} {w : World} {K : PySem.W.Frag} {W : WX} {eX : En} {α β γ δ σ σ' τ ρ : Type} {env env1 env2 : En} {ta tb te tc : TE} {tt tu : TT} {tA tr : TA} {da : α → Dt} {db : β → Dt} {en : σ → En}
/-! xs[::-1] -/
theorem po_revL {ds : List Dt} (h : Ep P w K ta env (.lst ds)) : EpO P w K (tRevL K ta) env (.lst ds.reverse) := fun F0 H0 F H σ S Q q =>
  h F0 H0 F H σ S _ fun v F1 H1 k1 r => by
    obtain ⟨a, us, rfl, g1, e1⟩ := r
    refine ⟨a, us, rfl, ex_l k1.s g1, fun p hp => ?_⟩
    exact q p _ F1 _ (k1.trans (Wk.own k1.s _ hp)) (none_sub k1.h hp) (none_sub k1.s hp) upd_same ⟨_, rfl, RpL.rev e1⟩
theorem xo_revL {e : α → Dt} {m : R (List α)} (h : Xp P w K W eX te env m (eL e)) : Xo P w K W eX (tRevL K te) env (m.bind fun xs => .ok xs.reverse) (oL e) := by
  cases m with
  | ok a =>
    show EpO P w K _ env (.lst (a.reverse.map e))
    rw [List.map_reverse]
    exact po_revL h
  | ex x => exact fun F0 H0 F H σ S Q q => h F0 H0 F H σ S _ q
  | no => trivial
/-! divmod -/
theorem rl_divmod {i j : Int} (h : 0 < j ∧ j < 1073741824) : RLd K (fun xs H Q => ∃ i j, xs = [V.int i, V.int j] ∧ CDiv i j ∧ ∀ p, H p = none → Q (.ref p) (L2.upd H p (.tup [.int (i / j), .int (i % j)]))) [.int i, .int j] (.tup [.int (i / j), .int (i % j)]) := fun F H vs s r Q q => by
  obtain ⟨v, r1, rfl, e1, v2, r2, rfl, e2, e3⟩ := r
  cases e1; cases e2; cases e3
  exact ⟨i, j, rfl, h, fun p hp => q _ _ _ (Wk.new s _ hp) ⟨p, _, rfl, SqT.of upd_same, _, _, rfl, rfl, _, _, rfl, rfl, rfl⟩⟩
def divmodR (i j : Int) : R (Int × Int) := R.need (0 < j ∧ j < 1073741824) (.ok (i / j, i % j))
theorem xp_divmod {i j : Int} (h : EpA P w K tA env [.int i, .int j]) : Xp P w K W eX (tCB (fun xs H Q => ∃ i j, xs = [V.int i, V.int j] ∧ CDiv i j ∧ ∀ p, H p = none → Q (.ref p) (L2.upd H p (.tup [.int (i / j), .int (i % j)]))) tA) env (divmodR i j) (eP2 eI eI) := by
  unfold divmodR R.need
  split
  · rename_i hc
    exact ep_cb h (rl_divmod hc)
  · trivial
/-! range(a, b, c) with c > 0 -/
def stepsI (a c : Int) (n : Nat) : List Int := (List.range n).map fun i : Nat => a + (i : Int) * c
def rgN (a b c : Int) : Nat := if a < b then ((b - a - 1) / c + 1).toNat else 0
theorem wl_rngC {F : Hp} {a c : Int} {n : Nat} : Wl K F (Itc a c n) ((stepsI a c n).map eI) := by
  unfold Wl
  rw [List.length_map, show (stepsI a c n).length = n by simp [stepsI]]
  refine walk_rangeC.mono (fun _ _ => trivial) fun i H x H' hi e y F2 e2 e3 => ?_
  obtain ⟨rfl, rfl⟩ := y
  exact ⟨F2, .int (a + (i : Int) * c), Wk.refl e3, by simp [stepsI, hi], rfl⟩
def rng3R (a b c : Int) : R (List Int) := R.need (-100000 ≤ a ∧ a ≤ 100000 ∧ -100000 ≤ b ∧ b ≤ 100000 ∧ 0 < c ∧ c ≤ 100000) (.ok (stepsI a c (rgN a b c)))
def rngDnR (a b : Int) : R (List Int) := R.need (-100000 ≤ a ∧ a ≤ 100000 ∧ -100000 ≤ b ∧ b ≤ 100000) (.ok (stepsI a (-1) (a - b).toNat))
theorem rgC_up {a b c : Int} (h : -100000 ≤ a ∧ a ≤ 100000 ∧ -100000 ≤ b ∧ b ≤ 100000 ∧ 0 < c ∧ c ≤ 100000) : RgC a b c (rgN a b c) := by
  obtain ⟨h1, h2, h3, h4, h5, h6⟩ := h
  have hd : a < b → 0 ≤ (b - a - 1) / c := fun hab => Int.ediv_nonneg (by omega) (by omega)
  have hd2 : a < b → (b - a - 1) / c * c ≤ b - a - 1 := fun hab => Int.ediv_mul_le _ (by omega)
  have hs : Builtin.Range.rangeSize a b c = (rgN a b c : Int) := by
    unfold Builtin.Range.rangeSize rgN
    rw [if_pos h5]
    split
    · rename_i hab
      have := hd hab
      omega
    · rfl
  refine ⟨by omega, by omega, ?_, hs⟩
  unfold Builtin.Range.small
  rw [hs]
  unfold rgN
  split
  · rename_i hab
    have q0 := hd hab
    have q1 := hd2 hab
    rw [Int.toNat_of_nonneg (by omega)]
    have q2 := Int.ediv_le_self (a := b - a - 1) c (by omega)
    simp [Builtin.Range.rangeFitsLong]
    omega
  · simp [Builtin.Range.rangeFitsLong]
    omega
theorem ip_rng3 {a b c : Int} (hA : EpA P w K tA env [.int a, .int b, .int c]) (h : -100000 ≤ a ∧ a ≤ 100000 ∧ -100000 ≤ b ∧ b ≤ 100000 ∧ 0 < c ∧ c ≤ 100000) : Ip P w K (iRng3 tA) env ((stepsI a c (rgN a b c)).map eI) := fun F0 H0 F H σ S R k =>
  hA F0 H0 F H σ S _ fun vs F1 H1 k1 r => by
    obtain ⟨v, r', rfl, e1, v2, r2, rfl, e2, v3, r3, rfl, e3, e4⟩ := r
    cases e1; cases e2; cases e3; cases e4
    exact ⟨a, b, c, _, rfl, rgC_up h, k _ F1 H1 k1 wl_rngC⟩
theorem ip_rngDn {a b : Int} (hA : EpA P w K tA env [.int a, .int b, .int (-1)]) (h : -100000 ≤ a ∧ a ≤ 100000 ∧ -100000 ≤ b ∧ b ≤ 100000) : Ip P w K (iRng3 tA) env ((stepsI a (-1) (a - b).toNat).map eI) := fun F0 H0 F H σ S R k =>
  hA F0 H0 F H σ S _ fun vs F1 H1 k1 r => by
    obtain ⟨v, r', rfl, e1, v2, r2, rfl, e2, v3, r3, rfl, e3, e4⟩ := r
    cases e1; cases e2; cases e3; cases e4
    exact ⟨a, b, -1, _, rfl, RgC.neg (by omega) (by omega) (by omega) (by omega), k _ F1 H1 k1 wl_rngC⟩
theorem xi_rng3 {ma : R α} {a b c : α → Int} (h : Xa P w K W eX tA env ma (fun v => [.int (a v), .int (b v), .int (c v)])) : Xi P w K W eX (iRng3 tA) env (ma.bind fun v => rng3R (a v) (b v) (c v)) eI := by
  cases ma with
  | ok v =>
    show Xi P w K W eX _ env (rng3R _ _ _) eI
    unfold rng3R R.need
    split
    · exact ip_rng3 h (by assumption)
    · trivial
  | ex x => exact fun F0 H0 F H σ S Q q => h F0 H0 F H σ S _ q
  | no => trivial
theorem xi_rngDn {ma : R α} {a b : α → Int} (h : Xa P w K W eX tA env ma (fun v => [.int (a v), .int (b v), .int (-1)])) : Xi P w K W eX (iRng3 tA) env (ma.bind fun v => rngDnR (a v) (b v)) eI := by
  cases ma with
  | ok v =>
    show Xi P w K W eX _ env (rngDnR _ _) eI
    unfold rngDnR R.need
    split
    · exact ip_rngDn h (by assumption)
    · trivial
  | ex x => exact fun F0 H0 F H σ S Q q => h F0 H0 F H σ S _ q
  | no => trivial
/-- reversed(range(a, b)) -/
def revRgR (a b : Int) : R (List Int) := R.need (-100000 ≤ a ∧ a ≤ 100000 ∧ -100000 ≤ b ∧ b ≤ 100000) (.ok (stepsI (b - 1) (-1) (b - a).toNat))
theorem ip_revRg1 {b : Int} (hb : Ep P w K tb env (.int b)) (h : 0 ≤ b ∧ b ≤ 100000) : Ip P w K (iRevR (tRg1 tb)) env ((stepsI (b - 1) (-1) b.toNat).map eI) := fun F0 H0 F H σ S R k =>
  hb F0 H0 F H σ S _ fun v F1 H1 k1 r => by
    cases r
    refine ⟨b, rfl, by omega, by omega, by omega, by omega, ?_⟩
    have e : (0 : Int) + (((b - 0).toNat : Nat) : Int) - 1 = b - 1 := by omega
    rw [e, show (b - 0).toNat = b.toNat by omega]
    exact k _ F1 H1 k1 wl_rngC
/-! tuple(xs), list(xs) of one's own -/
theorem ep_tupleO {i : Nat} {t : Option Addr} {e : α → Dt} {xs : List α} (hi : env[i]? = some (.ow t (oL e xs))) : Ep P w K (tCB (Pw.rTupS K) (tCons (tVar i) tNil)) env (eT e xs) := fun F0 H0 F H σ S Q q => by
  obtain ⟨p, o, e1, g0, g1, g2, g3, vs, rfl, g4⟩ := S.own hi
  refine ⟨_, e1, p, vs, rfl, .inl ⟨sq_of g3, fun l hl => ?_⟩⟩
  exact q _ (L2.upd F l (.tup vs)) _ (Wk.new S.sub _ hl) ⟨l, vs, rfl, SqT.of upd_same, g4.mono (Ex.new (none_sub S.sub hl))⟩
theorem po_listO {i : Nat} {t : Option Addr} {e : α → Dt} {xs : List α} (hi : env[i]? = some (.ow t (oL e xs))) : EpO P w K (tCB (rListS K) (tCons (tVar i) tNil)) env (oL e xs) := fun F0 H0 F H σ S Q q => by
  obtain ⟨p, o, e1, g0, g1, g2, g3, vs, rfl, g4⟩ := S.own hi
  refine ⟨_, e1, p, vs, rfl, .inl (sq_of g3), fun l hl => ?_⟩
  exact q l _ F _ (Wk.own S.sub _ hl) hl (none_sub S.sub hl) upd_same ⟨_, rfl, g4⟩
/-! len of what may be anything -/
def lenDR : Dt → R Int
  | .lst ds => .ok (ds.length : Int)
  | .tup ds => .ok (ds.length : Int)
  | _ => .no
theorem xp_lenD {d : Dt} (h : Ep P w K te env d) : Xp P w K W eX (tCB (rLenS K) (tCons te tNil)) env (lenDR d) eI := by
  cases d with
  | lst ds => exact ep_cb (ap_cons h ap_nil) Pw.rl_len
  | tup ds => exact ep_cb (ap_cons h ap_nil) Pw.rl_lenT
  | _ => trivial
@[simp] theorem ofO_some {a : α} : R.ofO (some a) = .ok a := rfl
theorem as_any : AsOk some eD := fun d a => by
  constructor
  · intro h
    exact Option.some.inj h
  · intro h
    exact congrArg some h
theorem enc_any {e : α → Dt} {xs : List α} : eL eD (xs.map e) = eL e xs := by
  show Dt.lst _ = Dt.lst _
  rw [List.map_map]
  rfl
theorem own_any {e : α → Dt} {xs : List α} : oL eD (xs.map e) = oL e xs := by
  show Ow.lst _ = Ow.lst _
  rw [List.map_map]
  rfl
theorem ep_anyL {e : α → Dt} {xs : List α} (h : Ep P w K te env (eL e xs)) : Ep P w K te env (eL eD (xs.map e)) := by rw [enc_any]; exact h
theorem xp_anyL {e : α → Dt} {m : R (List α)} (h : Xp P w K W eX te env m (eL e)) : Xp P w K W eX te env (m.bind fun xs => .ok (xs.map e)) (eL eD) := by
  cases m with
  | ok a => exact ep_anyL h
  | ex x => exact h
  | no => trivial
theorem xo_anyL {e : α → Dt} {m : R (List α)} (h : Xo P w K W eX te env m (oL e)) : Xo P w K W eX te env (m.bind fun xs => .ok (xs.map e)) (oL eD) := by
  cases m with
  | ok a =>
    show EpO P w K te env (oL eD (a.map e))
    rw [own_any]
    exact h
  | ex x => exact h
  | no => trivial
theorem xp_lenDM {m : R Dt} (h : Xp P w K W eX te env m eD) : Xp P w K W eX (tCB (rLenS K) (tCons te tNil)) env (m.bind lenDR) eI := by
  cases m with
  | ok d => exact xp_lenD h
  | ex x => exact er_cb (era_1 h)
  | no => trivial
def revRg1R (b : Int) : R (List Int) := R.need (0 ≤ b ∧ b ≤ 100000) (.ok (stepsI (b - 1) (-1) b.toNat))
theorem xi_revRg1 {b : Int} (hb : Ep P w K tb env (eI b)) : Xi P w K W eX (iRevR (tRg1 tb)) env (revRg1R b) eI := by
  unfold revRg1R R.need
  split
  · exact ip_revRg1 hb (by assumption)
  · trivial
theorem enc_anyT {e : α → Dt} {xs : List α} : eT eD (xs.map e) = eT e xs := by
  show Dt.tup _ = Dt.tup _
  rw [List.map_map]
  rfl
theorem ep_anyT {e : α → Dt} {xs : List α} (h : Ep P w K te env (eT e xs)) : Ep P w K te env (eT eD (xs.map e)) := by rw [enc_anyT]; exact h
theorem xp_anyT {e : α → Dt} {m : R (List α)} (h : Xp P w K W eX te env m (eT e)) : Xp P w K W eX te env (m.bind fun xs => .ok (xs.map e)) (eT eD) := by
  cases m with
  | ok a => exact ep_anyT h
  | ex x => exact h
  | no => trivial
end
section
variable {α β σ τ ρ : Type}
/-- by the place -/
theorem holds_ix {f : σ → α → R (Ctl σ σ ρ)} {Q : Ctl σ τ ρ → Prop} (I : σ → Nat → Prop) (xs : List α) (s0 : σ) (h0 : I s0 0) (hs : ∀ s (i : Nat) a, xs[i]? = some a → I s i → Holds (f s a) (onF (fun s' => I s' (i + 1)) Q)) (hd : ∀ s, I s xs.length → Q (.nx s)) : Holds (R.forR xs s0 f) Q := by
  refine holds_forD (fun s pre => I s pre.length) _ s0 h0 (fun s pre a post e h => ?_) hd
  refine (hs s pre.length a (by rw [e]; simp) h).imp fun c hc => ?_
  cases c with
  | nx s => rw [onF_nx] at hc ⊢; rwa [List.length_append]
  | ct s => rw [onF_ct] at hc ⊢; rwa [List.length_append]
  | bk s => exact hc
  | rt b => exact hc
theorem enumI_len {xs : List α} : (enumI xs).length = xs.length := by simp [enumI]
theorem enumI_get {xs : List α} {i : Nat} : (enumI xs)[i]? = xs[i]?.map fun a => ((i : Int), a) := by
  unfold enumI
  rw [List.getElem?_map, List.zip, List.getElem?_zipWith]
  by_cases h : i < xs.length
  · rw [List.getElem?_range h, List.getElem?_eq_getElem h]
    rfl
  · rw [List.getElem?_eq_none (l := xs) (by omega)]
    rw [List.getElem?_eq_none (l := List.range xs.length) (by simpa using h)]
    rfl
theorem stepsI_len {a c : Int} {n : Nat} : (stepsI a c n).length = n := by simp [stepsI]
theorem stepsI_get {a c : Int} {n i : Nat} (h : i < n) : (stepsI a c n)[i]? = some (a + (i : Int) * c) := by simp [stepsI, h]
theorem get_lt {xs : List α} {i : Nat} {a : α} (h : xs[i]? = some a) : i < xs.length := (List.getElem?_eq_some_iff.mp h).1
end
end Mw

set_option maxHeartbeats 1000000
namespace CC
open PySem PySem.Spec PyProof.Rows L2 Qw Mw RZ
open Evl hiding ea_cons
open Pw (Dt Rp RpL Wk R2d R1d RLd RLn Kq KqL spX2 Xm Xm0 cr_int cr_min2 cr_max2 cr_list cr_tuple rTupS cr_len pe_globI pe_globS pe_globR pe_tyname)

def top (i : Nat) : Stmt := PySem.Challenge.pw_probewright_k56_logs_are_read_strictly.main.body.getD i (.Pass ⟨0, 0, 0, 0⟩)
def bodyC (s : Stmt) : List Stmt := match s with | .ClassDef (body := bs) .. => bs | _ => []
def meth (i k : Nat) : Stmt := (bodyC (top i)).getD k (.Pass ⟨0, 0, 0, 0⟩)
def KIN : List Str := ["and", "or", "nand", "nor", "xor", "xnor", "not", "buf", "low", "high"]
abbrev gaC (K : PySem.W.Frag) : Addr := He.ga K "Circuit"

structure Txt (K : PySem.W.Frag) (mg : Str → Option Value) : Prop where
  f_all : mg "all" = none
  f_bool : mg "bool" = none
  f_divmod : mg "divmod" = none
  f_enumerate : mg "enumerate" = none
  f_int : mg "int" = none
  f_isinstance : mg "isinstance" = none
  f_len : mg "len" = none
  f_list : mg "list" = none
  f_max : mg "max" = none
  f_range : mg "range" = none
  f_set : mg "set" = none
  f_str : mg "str" = none
  f_tuple : mg "tuple" = none
  g_MOST_PATTERNS : ∃ t, mg "MOST_PATTERNS" = some (.int 1000 t)
  c_BadTester : mg "BadTester" = some (.ref (He.ga K "BadTester"))
  e_BadTester_BadTester : PySem.W.exmOne K (.ref (He.ga K "BadTester")) (.ref (He.ga K "BadTester")) = some true
  g_MOST_NAME : ∃ t, mg "MOST_NAME" = some (.int 12 t)
  g_MOST_PINS : ∃ t, mg "MOST_PINS" = some (.int 4 t)
  g_MOST_LINES : ∃ t, mg "MOST_LINES" = some (.int 400 t)
  g_MOST_SOURCES : ∃ t, mg "MOST_SOURCES" = some (.int 40 t)
  g__LETTERS : ∃ t, mg "_LETTERS" = some (.str "abcdefghijklmnopqrstuvwxyz" t)
  g__CHARACTERS : ∃ t, mg "_CHARACTERS" = some (.str "abcdefghijklmnopqrstuvwxyz0123456789_" t)
  g_KINDS : mg "KINDS" = some (.ref (He.ga K "KINDS"))
  t_KINDS : ∀ H, SqT K H (He.ga K "KINDS") (KIN.map V.str)
  k_Circuit : Cls K (He.ga K "Circuit")
  a_Circuit : ∀ f ∈ (["inputs", "registers", "gates", "outputs", "gate_of", "order"] : List Str), NoAttr K (He.ga K "Circuit") f
  c_BadCircuit : mg "BadCircuit" = some (.ref (He.ga K "BadCircuit"))
  x_BadCircuit : XfC K (He.ga K "BadCircuit")
  n_reason : PySem.W.findIn K (.ref (He.ga K "BadCircuit")) "reason" = some none
  n_name : PySem.W.findIn K (.ref (He.ga K "BadCircuit")) "name" = some none
  e_BadCircuit : PySem.W.exmOne K (.ref (He.ga K "BadCircuit")) (.ref (He.ga K "BadCircuit")) = some true
section
variable {P : Program} {w : World} {K : PySem.W.Frag} {mg : Str → Option Value} {base : Heap}

end
end CC

set_option maxHeartbeats 400000
namespace CC
open PySem PySem.Spec PyProof.Rows L2 Qw
open Evl hiding ea_cons
open Pw (Dt Rp RpL Wk R2d R1d RLd RLn Kq KqL truD flatD fl py pyL rangeD charsD spX2 Xm Xm0 tyD isI isB isS isTp isL rl_isInt rl_isBool rl_isStr rl_isTup rl_isList rl_int rl_max2 rl_min2 rl_len rl_lenT rl_tup rl_tupT rl_lenS rl_all rl_any rn_list rn_listT r2_I0 r2_B0 r2_eqI r2_neI r2_eqS r2_neS r2_eq r2_ne r2_I r2_inS r2_niS r2_in r2_inT r2_ixL r2_ixT r2_ixS r2_addS r2_eqD r2_neD r2_ixM r1_U ixN_at itemD cr_int cr_min2 cr_max2 cr_list cr_tuple cr_len pe_globI pe_globS pe_globR pe_tyname rTupS rInt1 rMin2)
local macro_rules | `(tactic| walk_at "side") => `(tactic| first
  | decide | omega | assumption | (show (0 : Int) < _; omega) | exact (show CDiv _ _ from ⟨by omega, by omega⟩) | exact (show CMul _ _ from Or.inr ⟨by omega, by omega⟩) | exact (show CMul _ _ from Or.inl ⟨by omega, by omega⟩) | exact (show CPow _ _ from ⟨by decide, by decide, by decide⟩))
local macro_rules | `(tactic| walk_at "op") => `(tactic| first
  | exact r2_I0 | exact r2_B0 | exact r2_eqI | exact r2_neI | exact r2_eqS | exact r2_neS
  | exact r2_eq rfl rfl rfl | exact r2_ne rfl rfl rfl
  | (refine' r2_I ?_; walk_at "side") | exact r2_inS | exact r2_niS)
local macro_rules | `(tactic| walk_at "rl") => `(tactic| first
  | exact rl_int | exact rl_max2 | exact rl_min2 | exact rl_len | exact rl_lenT | exact rl_isInt (by first | rfl | assumption) | exact rl_isBool (by first | rfl | assumption) | exact rl_isStr (by first | rfl | assumption) | exact rl_isTup (by first | rfl | assumption) | exact rl_isList (by first | rfl | assumption) | exact rl_tup | exact rl_tupT | (refine' rl_lenS ?_; walk_at "side"))
local macro_rules | `(tactic| walk_at "ap") => `(tactic| first
  | exact ap_nil
  | (refine' ap_cons ?eah ?eat; (case eah => walk_at "ep"); (case eat => walk_at "ap")))
local macro_rules | `(tactic| walk_at "ep") => `(tactic| first
  | exact ep_int | exact ep_bl | exact ep_str | exact ep_non | exact ep_ty | exact ep_var
  | (refine' ep_op ?eva ?evb ?evc; (case eva => walk_at "ep"); (case evb => walk_at "ep"); (case evc => walk_at "op"))
  | (refine' ep_cb ?evd ?eve; (case evd => walk_at "ap"); (case eve => walk_at "rl"))
  | (refine' ep_un ?evf r1_U; (case evf => walk_at "ep"))
  | (refine' ep_tup ?evg ?evi; (case evg => walk_at "ap"); (case evi => exact Nat.le_of_ble_eq_true rfl))
  | (refine' ep_lst ?evh ?evj; (case evh => walk_at "ap"); (case evj => exact Nat.le_of_ble_eq_true rfl))
  | assumption)
local macro_rules | `(tactic| walk_at "ee") => `(tactic| (refine' ee_p ?eep; (case eep => walk_at "ep")))
local macro_rules | `(tactic| walk_at "te") => `(tactic| (refine' te_p ?tep; (case tep => walk_at "tp")))
local macro_rules | `(tactic| walk_at "tp") => `(tactic| first
  | (refine' tp_test ?tea; (case tea => walk_at "ep"))
  | (refine' tp_B ?teb; (case teb => walk_at "ep"))
  | (refine' tp_not ?tec; (case tec => walk_at "tp"))
  | (refine' tp_or ?ted ?tee; (case ted => walk_at "tp"); (case tee => intro _; walk_at "tp"))
  | (refine' tp_and ?tef ?teg; (case tef => walk_at "tp"); (case teg => intro _; walk_at "tp"))
  | assumption)

section
variable {P : Program} {w : World} {K : PySem.W.Frag} {mg : Str → Option Value} {base : Heap}

def LET : Str := "abcdefghijklmnopqrstuvwxyz"
def CHR : Str := "abcdefghijklmnopqrstuvwxyz0123456789_"
def nameB (x : Str) : Bool := match x.cps.toList with
  | [] => false
  | c :: _ => decide (x.length ≤ 12) && (decide (c ∈ LET.cps.toList) && x.cps.toList.all fun c => decide (c ∈ CHR.cps.toList))
def okS : Dt → Bool
  | .str x => decide (x.length ≤ 40000)
  | d => (tyD d).isSome
theorem okS_ty {v : Dt} (h : okS v = true) : (tyD v).isSome = true := by
  cases v <;> first | exact h | rfl
def isName : Dt → Bool
  | .str x => nameB x
  | _ => false
def R_is_name (ds : List Dt) (r : Rs) : Prop := ∃ v, ds = [v] ∧ okS v = true ∧ r = .d (.bl (isName v))
theorem l_is_name (ds : List Dt) (r : Rs) (h : R_is_name ds r) : ds.length = 1 := by
  obtain ⟨v, rfl, _⟩ := h
  rfl
theorem len_cps (x : Str) : x.length = x.cps.toList.length := by simp [Str.length]
theorem str_empty {x : Str} (h : x.cps.toList = []) : x = "" := by
  obtain ⟨c⟩ := x
  have : c = #[] := by
    cases c
    simp at h
    rw [h]
  rw [this]
  rfl
theorem str_ne {x : Str} {c : Nat} {r : List Nat} (h : x.cps.toList = c :: r) : x ≠ "" := by
  rintro rfl
  cases h
theorem at0 {x : Str} {c : Nat} {r : List Nat} (h : x.cps.toList = c :: r) : atI x.cps.toList 0 = some c := by
  rw [h]
  have e := ixN_nat (n := (c :: r).length) (j := 0) (by simp)
  show (ixN (c :: r).length 0).bind _ = _
  rw [show (0 : Int) = ((0 : Nat) : Int) from rfl, e]
  rfl
abbrev s_is_name : Stmt := top 16
abbrev N_is_name : List Str := ["value", "sign"]
theorem sc_is_name : FnScope N_is_name ["value"] (defScope s_is_name) := ⟨rfl, rfl, rfl, by decide +kernel, rfl, by decide +kernel, by decide +kernel⟩
theorem k_is_name (T : Txt K mg) (D : Dx K mg "is_name" ["value"] s_is_name)  : Fx P w K mg base 1 "is_name" ["value"] (spR P w K R_is_name) := by
  refine Fx.of D sc_is_name (l_is_name) fun f cdv A outer s H E hr => ?_
  refine ⟨_, (pss_cons (ps_if (PW.pt (pw_or (pt_not (pt_val (pe_callB call_isi (by rfl) T.f_isinstance (by decide +kernel) (pa_cons (pv 0) (pa_cons (pe_tyname (n := "str") T.f_str) pa_nil))))) (pw_or1 (pt_cmpR op_eq (pv 0) pe_str (nomark _))))) (pss_one (ps_ret pe_bl)) pss_nil)
      (pss_cons (ps_if (PW.pt (pw_or (pt_cmpR op_gt (pe_callB call_len_str (by rfl) T.f_len PySem.boot_len (pa_cons (pv 0) pa_nil)) (pe_globI T.g_MOST_NAME) (nomark _)) (pw_or1 (pt_cmpR op_notInS (pe_ix ix_str (pv 0) pe_int (fun _ _ => rfl)) (pe_globS T.g__LETTERS) rfl)))) (pss_one (ps_ret pe_bl)) pss_nil)
      (pss_one (ps_ret (pe_callB (cr_all rfl) (by rfl) T.f_all (by decide +kernel) (pa_cons (pe_lc (own := [("sign", 1)]) (g := gName 1) (tt := tYes) rfl sc_is_name.nd (pi_str (pv 0)) (blkOk_by (N := N_is_name) (sc := defScope s_is_name) (by decide +kernel)) (fun _ _ _ _ _ => (pgn (i := 1) sc_is_name.nd)) (fun _ _ _ _ _ => pts_nil) (fun _ _ _ _ _ => (pe_cmpR op_inS (pv 1) (pe_globS T.g__CHARACTERS) rfl))) pa_nil)))))), ?_⟩
  rintro ds r ⟨v, rfl, hv, rfl⟩
  left
  show Se P w K _ [.d v, .u] _
  have ht := okS_ty hv
  cases hT : isS v with
  | false =>
    refine se_when (b := true) (te_p (tp_or (a := true) (b := true) (tp_is (tp_not (a := isS v) (by walk_at "tp")) (by rw [hT]; rfl)) (fun z => nomatch z))) (fun _ => ?_) (fun z => nomatch z)
    refine se_seqF (se_ret (ee_p (ep_is ep_bl ?_)))
    cases v <;> first | rfl | cases hT
  | true =>
    cases v <;> first | cases hT | skip
    rename_i x
    have hl : x.length ≤ 40000 := of_decide_eq_true hv
    refine se_when (b := decide (x = "")) (te_p (tp_is (tp_or (tp_not (by walk_at "tp")) (fun _ => by walk_at "tp")) rfl)) (fun hb => ?_) (fun hb => ?_)
    · refine se_seqF (se_ret (ee_p (ep_is ep_bl ?_)))
      have := of_decide_eq_true hb
      subst this
      rfl
    · cases hx : x.cps.toList with
      | nil =>
        rw [str_empty hx] at hb
        cases hb
      | cons c r =>
        refine se_when (b := decide ((12 : Int) < x.length) || !decide (c ∈ LET.cps.toList)) (te_p (tp_or (by walk_at "tp") fun _ => tp_test (ep_op (ep_op ep_var ep_int (r2_ixS (by omega) (at0 hx))) ep_str r2_niS))) (fun hb => ?_) (fun hb => ?_)
        · refine se_seqF (se_ret (ee_p (ep_is ep_bl ?_)))
          show _ = Dt.bl (nameB x)
          unfold nameB
          rw [hx]
          simp only [Bool.or_eq_true, decide_eq_true_eq, Bool.not_eq_true', decide_eq_false_iff_not] at hb
          congr 1
          symm
          simp only [Bool.and_eq_false_iff, decide_eq_false_iff_not]
          rcases hb with hb | hb
          · left; omega
          · right; left; exact hb
        · refine se_ret (ee_p (ep_is (ep_cb (ap_cons (ep_is (ep_new (np_mapT x.cps.toList (fun c => Dt.str ⟨#[c]⟩) (ip_str ep_var) (by rw [← len_cps]; exact hl) (fun c => .bl (decide (c ∈ CHR.cps.toList))) fun i c hc => ep_op ep_var ep_str r2_inS)) (e := .lst ((x.cps.toList.map fun c => decide (c ∈ CHR.cps.toList)).map .bl)) (by rw [List.map_map]; rfl)) ap_nil) rl_all) ?_))
          simp only [Bool.or_eq_false_iff, decide_eq_false_iff_not, Bool.not_eq_false', decide_eq_true_eq] at hb
          show _ = Dt.bl (nameB x)
          unfold nameB
          rw [hx]
          simp only [List.all_map]
          have h1 : decide (x.length ≤ 12) = true := decide_eq_true (by omega)
          rw [h1, decide_eq_true hb.2]
          simp
def mayHave (k : Str) (n : Int) : Bool := if k = "low" ∨ k = "high" then decide (n = 0) else if k = "not" ∨ k = "buf" then decide (n = 1) else decide (1 ≤ n) && decide (n ≤ 4)
def R_may_have (ds : List Dt) (r : Rs) : Prop := ∃ k n, ds = [.str k, .int n] ∧ r = .d (.bl (mayHave k n))
theorem l_may_have (ds : List Dt) (r : Rs) (h : R_may_have ds r) : ds.length = 2 := by
  obtain ⟨k, n, rfl, _⟩ := h
  rfl
theorem in2 (k a b : Str) : inV (V.str k) [V.str a, V.str b] = decide (k = a ∨ k = b) := by
  unfold inV
  simp only [List.any_cons, List.any_nil, Bool.or_false]
  have h : ∀ a : Str, eqV (V.str a) (V.str k) = decide (k = a) := fun a => by
    simp only [eqV]
    by_cases e : k = a
    · subst e; simp
    · simp [e, Ne.symm e]
  rw [h, h]
  simp
abbrev s_may_have : Stmt := top 19
abbrev N_may_have : List Str := ["kind", "count"]
theorem sc_may_have : FnScope N_may_have ["kind", "count"] (defScope s_may_have) := ⟨rfl, rfl, rfl, by decide +kernel, rfl, by decide +kernel, by decide +kernel⟩
theorem k_may_have (T : Txt K mg) (D : Dx K mg "_may_have" ["kind", "count"] s_may_have)  : Fx P w K mg base 1 "_may_have" ["kind", "count"] (spR P w K R_may_have) := by
  refine Fx.of D sc_may_have (l_may_have) fun f cdv A outer s H E hr => ?_
  refine ⟨_, (pss_cons (ps_if (pt_cmpR op_in_seq (pv 0) (pe_tup (pa_cons pe_str (pa_cons pe_str pa_nil))) rfl) (pss_one (ps_ret (pe_cmpR op_eq (pv 1) pe_int (nomark _)))) pss_nil)
      (pss_cons (ps_if (pt_cmpR op_in_seq (pv 0) (pe_tup (pa_cons pe_str (pa_cons pe_str pa_nil))) rfl) (pss_one (ps_ret (pe_cmpR op_eq (pv 1) pe_int (nomark _)))) pss_nil)
      (pss_one (ps_ret (pe_chain op_le op_le pe_int (pv 1) (pe_globI T.g_MOST_PINS)))))), ?_⟩
  rintro ds r ⟨k, n, rfl, rfl⟩
  left
  show Se P w K _ [.d (.str k), .d (.int n)] _
  have hin : ∀ {env : En} (a b : Str), env[0]? = some (.d (.str k)) → Tp P w K (tTest (tOp (rIn K false) (tVar 0) (tTup (tCons (tC (.str a)) (tCons (tC (.str b)) tNil))))) env (decide (k = a ∨ k = b)) := fun a b h0 =>
    tp_is (tp_test (ep_op (ep_var h0) (ep_tup (ap_cons ep_str (ap_cons ep_str ap_nil)) (Nat.le_of_ble_eq_true rfl)) (r2_inT rfl rfl rfl rfl))) (in2 k a b)
  refine se_when (te_p (hin "low" "high" rfl)) (fun hb => ?_) (fun hb => ?_)
  · refine se_seqF (se_ret (ee_p (ep_is (by walk_at "ep") ?_)))
    unfold mayHave
    rw [if_pos (of_decide_eq_true hb)]
  · refine se_when (te_p (hin "not" "buf" rfl)) (fun hb2 => ?_) (fun hb2 => ?_)
    · refine se_seqF (se_ret (ee_p (ep_is (by walk_at "ep") ?_)))
      unfold mayHave
      rw [if_neg (of_decide_eq_false hb), if_pos (of_decide_eq_true hb2)]
    · refine se_ret (ee_p (ep_is (ep_chain ep_int ep_var r2_B0 (fun _ => ep_int) fun _ => r2_B0) ?_))
      unfold mayHave
      rw [if_neg (of_decide_eq_false hb), if_neg (of_decide_eq_false hb2)]
def R_are_names (ds : List Dt) (r : Rs) : Prop := ∃ xs, (ds = [.tup xs] ∨ ds = [.lst xs]) ∧ xs.length ≤ 40000 ∧ xs.all okS = true ∧ r = .d (.bl (xs.all isName))
theorem l_are_names (ds : List Dt) (r : Rs) (h : R_are_names ds r) : ds.length = 1 := by
  obtain ⟨xs, rfl | rfl, _⟩ := h <;> rfl
abbrev s_are_names : Stmt := top 20
abbrev N_are_names : List Str := ["items", "item"]
theorem sc_are_names : FnScope N_are_names ["items"] (defScope s_are_names) := ⟨rfl, rfl, rfl, by decide +kernel, rfl, by decide +kernel, by decide +kernel⟩
theorem k_are_names (T : Txt K mg) (D : Dx K mg "_are_names" ["items"] s_are_names)  (G_is_name : Fx P w K mg base 1 "is_name" ["value"] (spR P w K R_is_name)) : Fx P w K mg base 2 "_are_names" ["items"] (spR P w K R_are_names) := by
  refine Fx.of D sc_are_names (l_are_names) fun f cdv A outer s H E hr => ?_
  refine ⟨_, (pss_one (ps_ret (pe_callB (cr_all rfl) (by rfl) T.f_all (by decide +kernel) (pa_cons (pe_lc (own := [("item", 1)]) (g := gName 1) (tt := tYes) rfl sc_are_names.nd (pi_seq (pv 0)) (blkOk_by (N := N_are_names) (sc := defScope s_are_names) (by decide +kernel)) (fun _ _ _ _ _ => (pgn (i := 1) sc_are_names.nd)) (fun _ _ _ _ _ => pts_nil) (fun _ _ _ _ _ => (pe_fx G_is_name (hr.mono (by decide)) (pa_cons (pv 1) pa_nil)))) pa_nil)))), ?_⟩
  rintro ds r ⟨xs, h, hl, ho, rfl⟩
  left
  obtain ⟨v, rfl, hI⟩ : ∃ v, ds = [v] ∧ Ip P w K (iSeq K (tVar 0)) [.d v, .u] xs := by
    rcases h with rfl | rfl
    · exact ⟨_, rfl, ip_seqT ep_var⟩
    · exact ⟨_, rfl, ip_seqL ep_var⟩
  exact se_ret (ee_p (ep_is (ep_cb (ap_cons (ep_is (ep_new (np_map hI hl (fun d => .bl (isName d)) fun d hd => ep_call (ap_cons ep_var ap_nil) ⟨d, rfl, List.all_eq_true.mp ho d hd, rfl⟩)) (e := .lst ((xs.map isName).map .bl)) (by rw [List.map_map]; rfl)) ap_nil) rl_all) (by rw [List.all_map]; rfl)))
def isReg : Dt → Bool
  | .tup xs => decide (xs.length = 2) && xs.all isName
  | _ => false
def okR : Dt → Bool
  | .tup xs => decide (xs.length ≤ 40000) && xs.all okS
  | d => (tyD d).isSome
theorem okR_ty {v : Dt} (h : okR v = true) : (tyD v).isSome = true := by
  cases v <;> first | exact h | rfl
def R_is_register (ds : List Dt) (r : Rs) : Prop := ∃ v, ds = [v] ∧ okR v = true ∧ r = .d (.bl (isReg v))
theorem l_is_register (ds : List Dt) (r : Rs) (h : R_is_register ds r) : ds.length = 1 := by
  obtain ⟨xs, rfl, _⟩ := h
  rfl
abbrev s_is_register : Stmt := top 21
abbrev N_is_register : List Str := ["value"]
theorem sc_is_register : FnScope N_is_register ["value"] (defScope s_is_register) := ⟨rfl, rfl, rfl, by decide +kernel, rfl, by decide +kernel, by decide +kernel⟩
theorem k_is_register (T : Txt K mg) (D : Dx K mg "_is_register" ["value"] s_is_register)  (G__are_names : Fx P w K mg base 2 "_are_names" ["items"] (spR P w K R_are_names)) : Fx P w K mg base 3 "_is_register" ["value"] (spR P w K R_is_register) := by
  refine Fx.of D sc_is_register (l_is_register) fun f cdv A outer s H E hr => ?_
  refine ⟨_, (pss_one (ps_ret (pe_and (pe_callB call_isi (by rfl) T.f_isinstance (by decide +kernel) (pa_cons (pv 0) (pa_cons (pe_tyname (n := "tuple") T.f_tuple) pa_nil))) (pe_and (pe_cmpR op_eq (pe_callB cr_len (by rfl) T.f_len PySem.boot_len (pa_cons (pv 0) pa_nil)) pe_int (nomark _)) (pe_one (pe_fx G__are_names (hr.mono (by decide)) (pa_cons (pv 0) pa_nil))))))), ?_⟩
  rintro ds r ⟨v, rfl, ho, rfl⟩
  left
  show Se P w K _ [.d v] _
  have ht := okR_ty ho
  refine se_ret (ee_p ?_)
  cases hT : isTp v with
  | false =>
    refine ep_is (ep_and (a := false) (b := true) (ep_is (by walk_at "ep") (by rw [hT])) (fun z => nomatch z)) ?_
    cases v <;> first | rfl | cases hT
  | true =>
    cases v <;> first | cases hT | skip
    rename_i xs
    obtain ⟨h1, h2⟩ := Bool.and_eq_true_iff.mp ho
    refine ep_is (ep_and (a := true) (ep_is (by walk_at "ep") rfl) fun _ => ep_and (by walk_at "ep") fun _ => ep_call (ap_cons ep_var ap_nil) ⟨xs, .inl rfl, of_decide_eq_true h1, h2, rfl⟩) ?_
    show Dt.bl (true && (decide ((xs.length : Int) = 2) && xs.all isName)) = Dt.bl (decide (xs.length = 2) && xs.all isName)
    rw [Bool.true_and]
    congr 2
    exact decide_eq_decide.mpr (by omega)
end
end CC

set_option maxHeartbeats 400000
namespace CC
open PySem PySem.Spec PyProof.Rows L2 Qw
open Evl hiding ea_cons
open Pw (Dt Rp RpL Wk R2d R1d RLd RLn Kq KqL truD flatD fl py pyL rangeD charsD spX2 Xm Xm0 tyD isI isB isS isTp isL rl_isInt rl_isBool rl_isStr rl_isTup rl_isList rl_int rl_max2 rl_min2 rl_len rl_lenT rl_tup rl_tupT rl_lenS rl_all rl_any rn_list rn_listT r2_I0 r2_B0 r2_eqI r2_neI r2_eqS r2_neS r2_eq r2_ne r2_I r2_inS r2_niS r2_in r2_inT r2_ixL r2_ixT r2_ixS r2_addS r2_eqD r2_neD r2_ixM r1_U ixN_at itemD cr_int cr_min2 cr_max2 cr_list cr_tuple cr_len pe_globI pe_globS pe_globR pe_tyname rTupS rInt1 rMin2)
local macro_rules | `(tactic| walk_at "side") => `(tactic| first
  | decide | omega | assumption | (show (0 : Int) < _; omega) | exact (show CDiv _ _ from ⟨by omega, by omega⟩) | exact (show CMul _ _ from Or.inr ⟨by omega, by omega⟩) | exact (show CMul _ _ from Or.inl ⟨by omega, by omega⟩) | exact (show CPow _ _ from ⟨by decide, by decide, by decide⟩))
local macro_rules | `(tactic| walk_at "op") => `(tactic| first
  | exact r2_I0 | exact r2_B0 | exact r2_eqI | exact r2_neI | exact r2_eqS | exact r2_neS
  | exact r2_eq rfl rfl rfl | exact r2_ne rfl rfl rfl
  | (refine' r2_I ?_; walk_at "side") | exact r2_inS | exact r2_niS)
local macro_rules | `(tactic| walk_at "rl") => `(tactic| first
  | exact rl_int | exact rl_max2 | exact rl_min2 | exact rl_len | exact rl_lenT | exact rl_isInt (by first | rfl | assumption) | exact rl_isBool (by first | rfl | assumption) | exact rl_isStr (by first | rfl | assumption) | exact rl_isTup (by first | rfl | assumption) | exact rl_isList (by first | rfl | assumption) | exact rl_tup | exact rl_tupT | (refine' rl_lenS ?_; walk_at "side"))
local macro_rules | `(tactic| walk_at "ap") => `(tactic| first
  | exact ap_nil
  | (refine' ap_cons ?eah ?eat; (case eah => walk_at "ep"); (case eat => walk_at "ap")))
local macro_rules | `(tactic| walk_at "ep") => `(tactic| first
  | exact ep_int | exact ep_bl | exact ep_str | exact ep_non | exact ep_ty | exact ep_var
  | (refine' ep_op ?eva ?evb ?evc; (case eva => walk_at "ep"); (case evb => walk_at "ep"); (case evc => walk_at "op"))
  | (refine' ep_cb ?evd ?eve; (case evd => walk_at "ap"); (case eve => walk_at "rl"))
  | (refine' ep_un ?evf r1_U; (case evf => walk_at "ep"))
  | (refine' ep_tup ?evg ?evi; (case evg => walk_at "ap"); (case evi => exact Nat.le_of_ble_eq_true rfl))
  | (refine' ep_lst ?evh ?evj; (case evh => walk_at "ap"); (case evj => exact Nat.le_of_ble_eq_true rfl))
  | assumption)
local macro_rules | `(tactic| walk_at "ee") => `(tactic| (refine' ee_p ?eep; (case eep => walk_at "ep")))
local macro_rules | `(tactic| walk_at "te") => `(tactic| (refine' te_p ?tep; (case tep => walk_at "tp")))
local macro_rules | `(tactic| walk_at "tp") => `(tactic| first
  | (refine' tp_test ?tea; (case tea => walk_at "ep"))
  | (refine' tp_B ?teb; (case teb => walk_at "ep"))
  | (refine' tp_not ?tec; (case tec => walk_at "tp"))
  | (refine' tp_or ?ted ?tee; (case ted => walk_at "tp"); (case tee => intro _; walk_at "tp"))
  | (refine' tp_and ?tef ?teg; (case tef => walk_at "tp"); (case teg => intro _; walk_at "tp"))
  | assumption)
section
variable {P : Program} {w : World} {K : PySem.W.Frag} {mg : Str → Option Value} {base : Heap}

/-! ### is_gate -/
def isGate : Dt → Bool
  | .tup [l, .str k, .tup ps] => decide (k ∈ KIN) && (mayHave k ps.length && (isName l && ps.all isName))
  | _ => false
/-- the third part: a tuple of things that may be asked for names, or what is no tuple -/
def okP : Dt → Bool
  | .tup ps => decide (ps.length ≤ 30000) && ps.all okS
  | d => (tyD d).isSome
def okG : Dt → Bool
  | .tup [l, k, p] => okS l && ((tyD k).isSome && okP p)
  | d => (tyD d).isSome
theorem okG_ty {v : Dt} (h : okG v = true) : (tyD v).isSome = true := by
  unfold okG at h
  split at h
  · rfl
  · exact h
theorem okP_ty {v : Dt} (h : okP v = true) : (tyD v).isSome = true := by
  cases v <;> first | exact h | rfl
def R_is_gate (ds : List Dt) (r : Rs) : Prop := ∃ v, ds = [v] ∧ okG v = true ∧ r = .d (.bl (isGate v))
theorem l_is_gate (ds : List Dt) (r : Rs) (h : R_is_gate ds r) : ds.length = 1 := by
  obtain ⟨xs, rfl, _⟩ := h
  rfl
theorem eqV_str (a k : Str) : eqV (V.str a) (V.str k) = decide (k = a) := by
  simp only [eqV]
  by_cases e : k = a
  · subst e; simp
  · simp [e, Ne.symm e]
theorem inV_strs (k : Str) (xs : List Str) : inV (V.str k) (xs.map V.str) = decide (k ∈ xs) := by
  unfold inV
  induction xs with
  | nil => simp
  | cons a xs ih =>
    rw [List.map_cons, List.any_cons, ih, eqV_str]
    simp
theorem fl_strs (xs : List Str) : (xs.map Dt.str).map Pw.fl = xs.map V.str := by
  rw [List.map_map]
  rfl
theorem flat_strsD (xs : List Str) : (xs.map Dt.str).all flatD = true := by
  simp [flatD]
theorem flat_strsV (xs : List Str) : ((xs.map Dt.str).map Pw.fl).all flatV = true := by
  rw [fl_strs]
  induction xs with
  | nil => rfl
  | cons a xs ih => exact ih
theorem se_no {s2 : TS} {env : En} {b : Bool} (h : b = false) : Se P w K (tSeq (tRet (tC (.bl false))) s2) env (.rt (.bl b)) := se_seqF (se_ret (ee_p (ep_is ep_bl (by rw [h]))))
theorem ep_kinds (T : Txt K mg) {env : En} : Ep P w K (tC (.ref (He.ga K "KINDS"))) env (.tup (KIN.map Dt.str)) := ep_c (rp_wr T.t_KINDS fun F => rpl_strs KIN)
abbrev s_is_gate : Stmt := top 22
abbrev N_is_gate : List Str := ["value", "line", "kind", "pins"]
theorem sc_is_gate : FnScope N_is_gate ["value"] (defScope s_is_gate) := ⟨rfl, rfl, rfl, by decide +kernel, rfl, by decide +kernel, by decide +kernel⟩
theorem k_is_gate (T : Txt K mg) (D : Dx K mg "is_gate" ["value"] s_is_gate)  (G__may_have : Fx P w K mg base 1 "_may_have" ["kind", "count"] (spR P w K R_may_have)) (G__are_names : Fx P w K mg base 2 "_are_names" ["items"] (spR P w K R_are_names)) : Fx P w K mg base 3 "is_gate" ["value"] (spR P w K R_is_gate) := by
  refine Fx.of D sc_is_gate (l_is_gate) fun f cdv A outer s H E hr => ?_
  refine ⟨_, (pss_cons (ps_if (PW.pt (pw_or (pt_not (pt_val (pe_callB call_isi (by rfl) T.f_isinstance (by decide +kernel) (pa_cons (pv 0) (pa_cons (pe_tyname (n := "tuple") T.f_tuple) pa_nil))))) (pw_or1 (pt_cmpR op_ne (pe_callB cr_len (by rfl) T.f_len PySem.boot_len (pa_cons (pv 0) pa_nil)) pe_int (nomark _))))) (pss_one (ps_ret pe_bl)) pss_nil)
      (pss_cons (ps_asg (pv 0) (pg_tup rfl (pgs_cons (pgn (i := 1) sc_is_gate.nd) (pgs_cons (pgn (i := 2) sc_is_gate.nd) (pgs_cons (pgn (i := 3) sc_is_gate.nd) pgs_nil)))))
      (pss_cons (ps_if (PW.pt (pw_or (pt_not (pt_val (pe_callB call_isi (by rfl) T.f_isinstance (by decide +kernel) (pa_cons (pv 2) (pa_cons (pe_tyname (n := "str") T.f_str) pa_nil))))) (pw_or1 (pt_cmpR op_notIn_seq (pv 2) (pe_globR T.g_KINDS) rfl)))) (pss_one (ps_ret pe_bl)) pss_nil)
      (pss_cons (ps_if (PW.pt (pw_or (pt_not (pt_val (pe_callB call_isi (by rfl) T.f_isinstance (by decide +kernel) (pa_cons (pv 3) (pa_cons (pe_tyname (n := "tuple") T.f_tuple) pa_nil))))) (pw_or1 (pt_not (pt_val (pe_fx G__may_have (hr.mono (by decide)) (pa_cons (pv 2) (pa_cons (pe_callB cr_len (by rfl) T.f_len PySem.boot_len (pa_cons (pv 3) pa_nil)) pa_nil)))))))) (pss_one (ps_ret pe_bl)) pss_nil)
      (pss_one (ps_ret (pe_fx G__are_names (hr.mono (by decide)) (pa_cons (pe_lst (pa_cons (pv 1) (StX.pa_star (pv 3) pa_nil))) pa_nil)))))))), ?_⟩
  rintro ds r ⟨v, rfl, ho, rfl⟩
  left
  show Se P w K _ [.d v, .u, .u, .u] _
  have ht := okG_ty ho
  cases hT : isTp v with
  | false =>
    refine se_when (b := true) (te_p (tp_or (a := true) (b := true) (tp_is (tp_not (a := isTp v) (by walk_at "tp")) (by rw [hT]; rfl)) (fun z => nomatch z))) (fun _ => se_no ?_) (fun z => nomatch z)
    cases v <;> first | rfl | cases hT
  | true =>
    cases v <;> first | cases hT | skip
    rename_i xs
    refine se_when (b := !decide ((xs.length : Int) = 3)) (te_p (tp_is (tp_or (a := false) (tp_is (tp_not (a := true) (by walk_at "tp")) rfl) (fun _ => by walk_at "tp")) rfl)) (fun hb => se_no ?_) (fun hb => ?_)
    · have hb : ¬ (xs.length : Int) = 3 := by simpa using hb
      unfold isGate
      split
      · rename_i e
        cases e
        exact absurd rfl hb
      · rfl
    · have hb : (xs.length : Int) = 3 := by simpa using hb
      obtain ⟨l, k, p, rfl⟩ : ∃ l k p, xs = [l, k, p] := by
        match xs, hb with
        | [l, k, p], _ => exact ⟨l, k, p, rfl⟩
      obtain ⟨hl, hk, hp⟩ : okS l = true ∧ (tyD k).isSome = true ∧ okP p = true := by
        have h := ho
        simp only [okG, Bool.and_eq_true] at h
        exact h
      have hpt := okP_ty hp
      refine se_seq (se_asgG (ee_p ep_var) (ge_tup (gs_cons ge_name (gs_cons ge_name (gs_cons ge_name gs_nil))))) ?_
      show Se P w K _ [.d _, .d l, .d k, .d p] _
      cases hS : isS k with
      | false =>
        refine se_when (b := true) (te_p (tp_or (a := true) (b := true) (tp_is (tp_not (a := isS k) (by walk_at "tp")) (by rw [hS]; rfl)) (fun z => nomatch z))) (fun _ => se_no ?_) (fun z => nomatch z)
        cases k <;> first | rfl | cases hS
      | true =>
        obtain ⟨k, rfl⟩ : ∃ x, k = .str x := by cases k <;> first | exact ⟨_, rfl⟩ | cases hS
        refine se_when (b := !decide (k ∈ KIN)) (te_p (tp_is (tp_or (a := false) (tp_is (tp_not (a := true) (by walk_at "tp")) rfl) (fun _ => tp_is (tp_test (ep_op ep_var (ep_kinds T) (r2_inT (neg := true) rfl (flat_strsD KIN) rfl (flat_strsV KIN)))) (by rw [fl_strs]; exact congrArg (!·) (inV_strs k KIN)))) rfl)) (fun hb => se_no ?_) (fun hb => ?_)
        · have hnk : decide (k ∈ KIN) = false := by simpa using hb
          unfold isGate
          split
          · rename_i e
            cases e
            rw [hnk, Bool.false_and]
          · rfl
        · have hkin : k ∈ KIN := by simpa using hb
          cases hT2 : isTp p with
          | false =>
            refine se_when (b := true) (te_p (tp_or (a := true) (b := true) (tp_is (tp_not (a := isTp p) (by walk_at "tp")) (by rw [hT2]; rfl)) (fun z => nomatch z))) (fun _ => se_no ?_) (fun z => nomatch z)
            cases p <;> first | rfl | cases hT2
          | true =>
            obtain ⟨ps, rfl⟩ : ∃ x, p = .tup x := by cases p <;> first | exact ⟨_, rfl⟩ | cases hT2
            obtain ⟨hp1, hp2⟩ : decide (ps.length ≤ 30000) = true ∧ ps.all okS = true := by
              have h := hp
              simp only [okP, Bool.and_eq_true] at h
              exact h
            have hp1 := of_decide_eq_true hp1
            refine se_when (b := !mayHave k ps.length) (te_p (tp_is (tp_or (a := false) (tp_is (tp_not (a := true) (by walk_at "tp")) rfl) (fun _ => tp_not (tp_B (ep_call (ap_cons ep_var (ap_cons (by walk_at "ep") ap_nil)) ⟨k, ps.length, rfl, rfl⟩)))) rfl)) (fun hb => se_no ?_) (fun hb => ?_)
            · have hb : mayHave k ps.length = false := by simpa using hb
              show (decide (k ∈ KIN) && (mayHave k ps.length && (isName l && ps.all isName))) = false
              rw [hb, Bool.false_and, Bool.and_false]
            · have hb : mayHave k ps.length = true := by simpa using hb
              refine se_ret (ee_p (ep_is (ep_call (ap_cons (ep_lst (ap_cons ep_var (ap_starT ep_var ap_nil)) (by simp; omega)) ap_nil) ⟨l :: (ps ++ []), .inr rfl, by simp; omega, by simp [hl, hp2], rfl⟩) ?_))
              show _ = Dt.bl (decide (k ∈ KIN) && (mayHave k ps.length && (isName l && ps.all isName)))
              rw [hb, decide_eq_true hkin, List.append_nil, List.all_cons]
              simp
end
end CC

set_option maxHeartbeats 400000
namespace CC
open PySem PySem.Spec PyProof.Rows L2 Qw
open Evl hiding ea_cons
open Pw (Dt Rp RpL Wk R2d R1d RLd RLn Kq KqL truD flatD fl py pyL rangeD charsD spX2 Xm Xm0 tyD isI isB isS isTp isL rl_isInt rl_isBool rl_isStr rl_isTup rl_isList rl_int rl_max2 rl_min2 rl_len rl_lenT rl_tup rl_tupT rl_lenS rl_all rl_any rn_list rn_listT r2_I0 r2_B0 r2_eqI r2_neI r2_eqS r2_neS r2_eq r2_ne r2_I r2_inS r2_niS r2_in r2_inT r2_ixL r2_ixT r2_ixS r2_addS r2_eqD r2_neD r2_ixM r1_U ixN_at itemD cr_int cr_min2 cr_max2 cr_list cr_tuple cr_len pe_globI pe_globS pe_globR pe_tyname rTupS rInt1 rMin2)
local macro_rules | `(tactic| walk_at "side") => `(tactic| first
  | decide | omega | assumption | (show (0 : Int) < _; omega) | exact (show CDiv _ _ from ⟨by omega, by omega⟩) | exact (show CMul _ _ from Or.inr ⟨by omega, by omega⟩) | exact (show CMul _ _ from Or.inl ⟨by omega, by omega⟩) | exact (show CPow _ _ from ⟨by decide, by decide, by decide⟩))
local macro_rules | `(tactic| walk_at "op") => `(tactic| first
  | exact r2_I0 | exact r2_B0 | exact r2_eqI | exact r2_neI | exact r2_eqS | exact r2_neS
  | exact r2_eq rfl rfl rfl | exact r2_ne rfl rfl rfl
  | (refine' r2_I ?_; walk_at "side") | exact r2_inS | exact r2_niS)
local macro_rules | `(tactic| walk_at "rl") => `(tactic| first
  | exact rl_int | exact rl_max2 | exact rl_min2 | exact rl_len | exact rl_lenT | exact rl_isInt (by first | rfl | assumption) | exact rl_isBool (by first | rfl | assumption) | exact rl_isStr (by first | rfl | assumption) | exact rl_isTup (by first | rfl | assumption) | exact rl_isList (by first | rfl | assumption) | exact rl_tup | exact rl_tupT | (refine' rl_lenS ?_; walk_at "side"))
local macro_rules | `(tactic| walk_at "ap") => `(tactic| first
  | exact ap_nil
  | (refine' ap_cons ?eah ?eat; (case eah => walk_at "ep"); (case eat => walk_at "ap")))
local macro_rules | `(tactic| walk_at "ep") => `(tactic| first
  | exact ep_int | exact ep_bl | exact ep_str | exact ep_non | exact ep_ty | exact ep_var
  | (refine' ep_op ?eva ?evb ?evc; (case eva => walk_at "ep"); (case evb => walk_at "ep"); (case evc => walk_at "op"))
  | (refine' ep_cb ?evd ?eve; (case evd => walk_at "ap"); (case eve => walk_at "rl"))
  | (refine' ep_un ?evf r1_U; (case evf => walk_at "ep"))
  | (refine' ep_tup ?evg ?evi; (case evg => walk_at "ap"); (case evi => exact Nat.le_of_ble_eq_true rfl))
  | (refine' ep_lst ?evh ?evj; (case evh => walk_at "ap"); (case evj => exact Nat.le_of_ble_eq_true rfl))
  | assumption)
local macro_rules | `(tactic| walk_at "ee") => `(tactic| (refine' ee_p ?eep; (case eep => walk_at "ep")))
local macro_rules | `(tactic| walk_at "te") => `(tactic| (refine' te_p ?tep; (case tep => walk_at "tp")))
local macro_rules | `(tactic| walk_at "tp") => `(tactic| first
  | (refine' tp_test ?tea; (case tea => walk_at "ep"))
  | (refine' tp_B ?teb; (case teb => walk_at "ep"))
  | (refine' tp_not ?tec; (case tec => walk_at "tp"))
  | (refine' tp_or ?ted ?tee; (case ted => walk_at "tp"); (case tee => intro _; walk_at "tp"))
  | (refine' tp_and ?tef ?teg; (case tef => walk_at "tp"); (case teg => intro _; walk_at "tp"))
  | assumption)
section
variable {P : Program} {w : World} {K : PySem.W.Frag} {mg : Str → Option Value} {base : Heap}

/-! ### the checks -/
def badC (K : PySem.W.Frag) (reason name : Str) : Xn := ⟨He.ga K "BadCircuit", ["name", "reason"], [.str name, .str reason]⟩
def R_check_form (K : PySem.W.Frag) (ds : List Dt) (r : Rs) : Prop := ∃ is rs gs os, ds = [.tup is, .tup rs, .tup gs, .tup os] ∧ (is.length ≤ 40000 ∧ rs.length ≤ 40000 ∧ gs.length ≤ 40000 ∧ os.length ≤ 40000) ∧ (is.all okS = true ∧ rs.all okR = true ∧ gs.all okG = true ∧ os.all okS = true) ∧
  r = if (is.all isName && (os.all isName && (rs.all isReg && gs.all isGate))) = true then .d .non else .x (badC K "form" "")
theorem l_check_form (K : PySem.W.Frag) (ds : List Dt) (r : Rs) (h : R_check_form K ds r) : ds.length = 4 := by
  obtain ⟨is, rs, gs, os, rfl, _⟩ := h
  rfl
theorem does_rz {E : XK} {s : TS} {env : En} {x : Xn} {e : En} (h : Se P w K s env (.rz (fun cls d _ H => E cls d H) x e)) : Does P w K E s env (.x x) := ⟨e, h⟩
theorem does_nx {E : XK} {s : TS} {env : En} {e : En} (h : Se P w K s env (.nx e)) : Does P w K E s env (.d .non) := .inr ⟨rfl, e, h⟩
theorem does_if {E : XK} {s : TS} {env : En} {x : Xn} {e : En} {c : Prop} [Decidable c] (h : Se P w K s env (if c then .nx e else .rz (fun cls d _ H => E cls d H) x e)) : Does P w K E s env (if c then .d .non else .x x) := by
  split at h
  · rename_i z
    rw [if_pos z]
    exact does_nx h
  · rename_i z
    rw [if_neg z]
    exact does_rz h
abbrev s_check_form : Stmt := top 23
abbrev N_check_form : List Str := ["inputs", "registers", "gates", "outputs", "item"]
theorem sc_check_form : FnScope N_check_form ["inputs", "registers", "gates", "outputs"] (defScope s_check_form) := ⟨rfl, rfl, rfl, by decide +kernel, rfl, by decide +kernel, by decide +kernel⟩
theorem k_check_form (T : Txt K mg) (D : Dx K mg "_check_form" ["inputs", "registers", "gates", "outputs"] s_check_form)  (G__are_names : Fx P w K mg base 2 "_are_names" ["items"] (spR P w K R_are_names)) (G__is_register : Fx P w K mg base 3 "_is_register" ["value"] (spR P w K R_is_register)) (G_is_gate : Fx P w K mg base 3 "is_gate" ["value"] (spR P w K R_is_gate)) (X_BadCircuit : Xm P w K mg base "BadCircuit" (He.ga K "BadCircuit") (spX2 (He.ga K "BadCircuit") "reason" "name")) : Fx P w K mg base 4 "_check_form" ["inputs", "registers", "gates", "outputs"] (spR P w K (R_check_form K)) := by
  refine Fx.ofX D sc_check_form (l_check_form K) fun f cdv A outer s H E hr tk => ?_
  refine ⟨_, (pss_cons (ps_if (PW.pt (pw_or (pt_not (pt_val (pe_fx G__are_names (hr.mono (by decide)) (pa_cons (pv 0) pa_nil)))) (pw_or1 (pt_not (pt_val (pe_fx G__are_names (hr.mono (by decide)) (pa_cons (pv 3) pa_nil))))))) (pss_one (ps_raise rfl tk (pm_2 X_BadCircuit (hr.mono (by decide)) (pa_cons pe_str (pa_cons pe_str pa_nil))))) pss_nil)
      (pss_cons (ps_if (pt_not (pt_val (pe_callB (cr_all rfl) (by rfl) T.f_all (by decide +kernel) (pa_cons (pe_lc (own := [("item", 4)]) (g := gName 4) (tt := tYes) rfl sc_check_form.nd (pi_tup (pv 1)) (blkOk_by (N := N_check_form) (sc := defScope s_check_form) (by decide +kernel)) (fun _ _ _ _ _ => (pgn (i := 4) sc_check_form.nd)) (fun _ _ _ _ _ => pts_nil) (fun _ _ _ _ _ => (pe_fx G__is_register (hr.mono (by decide)) (pa_cons (pv 4) pa_nil)))) pa_nil)))) (pss_one (ps_raise rfl tk (pm_2 X_BadCircuit (hr.mono (by decide)) (pa_cons pe_str (pa_cons pe_str pa_nil))))) pss_nil)
      (pss_one (ps_if (pt_not (pt_val (pe_callB (cr_all rfl) (by rfl) T.f_all (by decide +kernel) (pa_cons (pe_lc (own := [("item", 4)]) (g := gName 4) (tt := tYes) rfl sc_check_form.nd (pi_tup (pv 2)) (blkOk_by (N := N_check_form) (sc := defScope s_check_form) (by decide +kernel)) (fun _ _ _ _ _ => (pgn (i := 4) sc_check_form.nd)) (fun _ _ _ _ _ => pts_nil) (fun _ _ _ _ _ => (pe_fx G_is_gate (hr.mono (by decide)) (pa_cons (pv 4) pa_nil)))) pa_nil)))) (pss_one (ps_raise rfl tk (pm_2 X_BadCircuit (hr.mono (by decide)) (pa_cons pe_str (pa_cons pe_str pa_nil))))) pss_nil)))), ?_⟩
  rintro ds r ⟨is, rs, gs, os, rfl, ⟨l1, l2, l3, l4⟩, ⟨o1, o2, o3, o4⟩, rfl⟩
  show Does P w K E _ [.d (.tup is), .d (.tup rs), .d (.tup gs), .d (.tup os), .u] _
  have t1 : ∀ {env : En} {i : Nat} {xs : List Dt}, env[i]? = some (.d (.tup xs)) → xs.length ≤ 40000 → xs.all okS = true → Tp P w K (tNot (tB (tCall (spR P w K R_are_names) [] E0 (tCons (tVar i) tNil)))) env (!xs.all isName) := fun h0 h1 h2 =>
    tp_not (tp_B (ep_call (ap_cons (ep_var h0) ap_nil) ⟨_, .inl rfl, h1, h2, rfl⟩))
  have bad : ∀ {s2 : TS} {e : En}, Se P w K (tSeq (fun _ σ H => tMkO (He.ga K "BadCircuit") (spX2 (He.ga K "BadCircuit") "reason" "name") [] (tCons (tC (.str "form")) (tCons (tC (.str "")) tNil)) σ H fun cls d H' => (fun (cls : Value) (d : Option Addr) (_ : L2.St) (H : Hp) => E cls d H) cls d σ H') s2) e (.rz (fun cls d _ H => E cls d H) (badC K "form" "") e) := se_seqF (se_raise2 (by walk_at "ap"))
  have bad1 : ∀ {e : En}, Se P w K (fun _ σ H => tMkO (He.ga K "BadCircuit") (spX2 (He.ga K "BadCircuit") "reason" "name") [] (tCons (tC (.str "form")) (tCons (tC (.str "")) tNil)) σ H fun cls d H' => (fun (cls : Value) (d : Option Addr) (_ : L2.St) (H : Hp) => E cls d H) cls d σ H') e (.rz (fun cls d _ H => E cls d H) (badC K "form" "") e) := se_raise2 (by walk_at "ap")
  refine does_if (e := [.d (.tup is), .d (.tup rs), .d (.tup gs), .d (.tup os), .u]) ?_
  refine se_when (te_p (tp_or (t1 rfl l1 o1) fun _ => t1 rfl l4 o4)) (fun hb => ?_) (fun hb => ?_)
  · rw [if_neg]
    · exact bad
    · intro z
      simp only [Bool.and_eq_true] at z
      rw [z.1, z.2.1] at hb
      cases hb
  · obtain ⟨b1, b2⟩ : is.all isName = true ∧ os.all isName = true := by simpa using hb
    refine se_when (b := !rs.all isReg) (te_p (tp_not (tp_B (ep_is (ep_cb (ap_cons (ep_is (ep_new (np_map (ip_tup ep_var) l2 (fun d => .bl (isReg d)) fun d hd => ep_call (ap_cons ep_var ap_nil) ⟨d, rfl, List.all_eq_true.mp o2 d hd, rfl⟩)) (e := .lst ((rs.map isReg).map .bl)) (by rw [List.map_map]; rfl)) ap_nil) rl_all) (by rw [List.all_map]; rfl))))) (fun hb => ?_) (fun hb => ?_)
    · rw [if_neg]
      · exact bad
      · intro z
        simp only [Bool.and_eq_true] at z
        rw [z.2.2.1] at hb
        cases hb
    · refine se_if (b := !gs.all isGate) (te_p (tp_not (tp_B (ep_is (ep_cb (ap_cons (ep_is (ep_new (np_map (ip_tup ep_var) l3 (fun d => .bl (isGate d)) fun d hd => ep_call (ap_cons ep_var ap_nil) ⟨d, rfl, List.all_eq_true.mp o3 d hd, rfl⟩)) (e := .lst ((gs.map isGate).map .bl)) (by rw [List.map_map]; rfl)) ap_nil) rl_all) (by rw [List.all_map]; rfl))))) (fun hc => ?_) (fun hc => ?_)
      · rw [if_neg]
        · exact bad1
        · intro z
          simp only [Bool.and_eq_true] at z
          rw [z.2.2.2] at hc
          cases hc
      · rw [if_pos]
        · exact se_next
        · rw [b1, b2]
          have h1 : rs.all isReg = true := by simpa using hb
          have h2 : gs.all isGate = true := by simpa using hc
          rw [h1, h2]
          rfl
end
end CC

set_option maxHeartbeats 400000
namespace CC
open PySem PySem.Spec PyProof.Rows L2 Qw
open Evl hiding ea_cons
open Pw (Dt Rp RpL Wk R2d R1d RLd RLn Kq KqL truD flatD fl py pyL rangeD charsD spX2 Xm Xm0 tyD isI isB isS isTp isL rl_isInt rl_isBool rl_isStr rl_isTup rl_isList rl_int rl_max2 rl_min2 rl_len rl_lenT rl_tup rl_tupT rl_lenS rl_all rl_any rn_list rn_listT r2_I0 r2_B0 r2_eqI r2_neI r2_eqS r2_neS r2_eq r2_ne r2_I r2_inS r2_niS r2_in r2_inT r2_ixL r2_ixT r2_ixS r2_addS r2_eqD r2_neD r2_ixM r1_U ixN_at itemD cr_int cr_min2 cr_max2 cr_list cr_tuple cr_len pe_globI pe_globS pe_globR pe_tyname rTupS rInt1 rMin2)
local macro_rules | `(tactic| walk_at "side") => `(tactic| first
  | decide | omega | assumption | (show (0 : Int) < _; omega) | exact (show CDiv _ _ from ⟨by omega, by omega⟩) | exact (show CMul _ _ from Or.inr ⟨by omega, by omega⟩) | exact (show CMul _ _ from Or.inl ⟨by omega, by omega⟩) | exact (show CPow _ _ from ⟨by decide, by decide, by decide⟩))
local macro_rules | `(tactic| walk_at "op") => `(tactic| first
  | exact r2_I0 | exact r2_B0 | exact r2_eqI | exact r2_neI | exact r2_eqS | exact r2_neS
  | exact r2_eq rfl rfl rfl | exact r2_ne rfl rfl rfl
  | (refine' r2_I ?_; walk_at "side") | exact r2_inS | exact r2_niS)
local macro_rules | `(tactic| walk_at "rl") => `(tactic| first
  | exact rl_int | exact rl_max2 | exact rl_min2 | exact rl_len | exact rl_lenT | exact rl_isInt (by first | rfl | assumption) | exact rl_isBool (by first | rfl | assumption) | exact rl_isStr (by first | rfl | assumption) | exact rl_isTup (by first | rfl | assumption) | exact rl_isList (by first | rfl | assumption) | exact rl_tup | exact rl_tupT | (refine' rl_lenS ?_; walk_at "side"))
local macro_rules | `(tactic| walk_at "ap") => `(tactic| first
  | exact ap_nil
  | (refine' ap_cons ?eah ?eat; (case eah => walk_at "ep"); (case eat => walk_at "ap")))
local macro_rules | `(tactic| walk_at "ep") => `(tactic| first
  | exact ep_int | exact ep_bl | exact ep_str | exact ep_non | exact ep_ty | exact ep_var
  | (refine' ep_op ?eva ?evb ?evc; (case eva => walk_at "ep"); (case evb => walk_at "ep"); (case evc => walk_at "op"))
  | (refine' ep_cb ?evd ?eve; (case evd => walk_at "ap"); (case eve => walk_at "rl"))
  | (refine' ep_un ?evf r1_U; (case evf => walk_at "ep"))
  | (refine' ep_tup ?evg ?evi; (case evg => walk_at "ap"); (case evi => exact Nat.le_of_ble_eq_true rfl))
  | (refine' ep_lst ?evh ?evj; (case evh => walk_at "ap"); (case evj => exact Nat.le_of_ble_eq_true rfl))
  | assumption)
local macro_rules | `(tactic| walk_at "ee") => `(tactic| (refine' ee_p ?eep; (case eep => walk_at "ep")))
local macro_rules | `(tactic| walk_at "te") => `(tactic| (refine' te_p ?tep; (case tep => walk_at "tp")))
local macro_rules | `(tactic| walk_at "tp") => `(tactic| first
  | (refine' tp_test ?tea; (case tea => walk_at "ep"))
  | (refine' tp_B ?teb; (case teb => walk_at "ep"))
  | (refine' tp_not ?tec; (case tec => walk_at "tp"))
  | (refine' tp_or ?ted ?tee; (case ted => walk_at "tp"); (case tee => intro _; walk_at "tp"))
  | (refine' tp_and ?tef ?teg; (case tef => walk_at "tp"); (case teg => intro _; walk_at "tp"))
  | assumption)
section
variable {P : Program} {w : World} {K : PySem.W.Frag} {mg : Str → Option Value} {base : Heap}

theorem se_lez {s : TS} {env e1 e2 : En} {W : WX} {x : Xn} (h : Se P w K s env (.rz W x e1)) (l : Le e1 e2) : Se P w K s env (.rz W x e2) := fun F0 H0 F H σ D S p => h F0 H0 F H σ D S fun od F1 H1 σ1 e1 S1 => p od F1 H1 σ1 e1 (S1.le l)
theorem le_x : ∀ {a : En} {n : Nat}, a.length = n → Le a (List.replicate n .x) := fun {a n} h => ⟨by simp [h], fun i s e => .inl (by
  rw [List.getElem?_replicate] at e
  split at e
  · exact (Option.some.inj e).symm
  · cases e)⟩
def orX (f : Str → Xn) : Option Str → Rs
  | none => .d .non
  | some a => .x (f a)
def outX (E : XK) (e e2 : En) (f : Str → Xn) : Option Str → Out
  | none => .nx e
  | some a => .rz (fun cls d _ H => E cls d H) (f a) e2
/-! ### _check_driven_once -/
def dupOf : List Str → List Str → Option Str
  | _, [] => none
  | seen, x :: r => if x ∈ seen then some x else dupOf (seen ++ [x]) r
theorem dup_spec : ∀ (xs seen : List Str), (dupOf seen xs = none ∧ ∀ (i : Nat) x, xs[i]? = some x → ¬ x ∈ seen ++ xs.take i) ∨ ∃ (i : Nat) (x : Str), dupOf seen xs = some x ∧ xs[i]? = some x ∧ x ∈ seen ++ xs.take i ∧ ∀ (j : Nat) y, j < i → xs[j]? = some y → ¬ y ∈ seen ++ xs.take j
  | [], seen => .inl ⟨rfl, fun i x h => by simp at h⟩
  | a :: xs, seen => by
    by_cases e : a ∈ seen
    · exact .inr ⟨0, a, by simp [dupOf, e], rfl, by simpa using e, fun j y h => by omega⟩
    · have h0 : dupOf seen (a :: xs) = dupOf (seen ++ [a]) xs := by simp [dupOf, e]
      rw [h0]
      rcases dup_spec xs (seen ++ [a]) with ⟨h1, h2⟩ | ⟨i, x, h1, h2, h3, h4⟩
      · refine .inl ⟨h1, fun i x h => ?_⟩
        cases i with
        | zero =>
          simp at h
          subst h
          simpa using e
        | succ i =>
          have := h2 i x (by simpa using h)
          simpa [List.append_assoc] using this
      · refine .inr ⟨i + 1, x, h1, by simpa using h2, by simpa [List.append_assoc] using h3, fun j y hj hy => ?_⟩
        cases j with
        | zero =>
          simp at hy
          subst hy
          simpa using e
        | succ j =>
          have := h4 j y (by omega) (by simpa using hy)
          simpa [List.append_assoc] using this
def setS (xs : List Str) : Key → Bool := Qs.memK (xs.map Sum.inr)
theorem setS_in (xs : List Str) (x : Str) : setS xs (.inr x) = decide (x ∈ xs) := by
  unfold setS Qs.memK
  induction xs with
  | nil => simp
  | cons a xs ih =>
    rw [List.map_cons, List.any_cons, ih]
    have : decide ((Sum.inr x : Key) = Sum.inr a) = decide (x = a) := decide_eq_decide.mpr ⟨Sum.inr.inj, fun h => by rw [h]⟩
    rw [this]
    simp
theorem setS_snoc (xs : List Str) (x : Str) : (fun j => setS xs j || decide (j = (.inr x : Key))) = setS (xs ++ [x]) := by
  funext j
  unfold setS Qs.memK
  simp
def R_check_driven_once (K : PySem.W.Frag) (ds : List Dt) (r : Rs) : Prop := ∃ xs : List Str, ds = [.lst (xs.map .str)] ∧ xs.length ≤ 3000 ∧ r = orX (badC K "twice") (dupOf [] xs)
theorem l_check_driven_once (K : PySem.W.Frag) (ds : List Dt) (r : Rs) (h : R_check_driven_once K ds r) : ds.length = 1 := by
  obtain ⟨xs, rfl, _⟩ := h
  rfl
theorem does_opt {E : XK} {s : TS} {env e e2 : En} {f : Str → Xn} (o : Option Str) (h : Se P w K s env (outX E e e2 f o)) : Does P w K E s env (orX f o) := by
  cases o with
  | none => exact does_nx h
  | some a => exact does_rz h
abbrev s_check_driven_once : Stmt := top 24
abbrev N_check_driven_once : List Str := ["lines", "seen", "line"]
theorem sc_check_driven_once : FnScope N_check_driven_once ["lines"] (defScope s_check_driven_once) := ⟨rfl, rfl, rfl, by decide +kernel, rfl, by decide +kernel, by decide +kernel⟩
theorem k_check_driven_once (T : Txt K mg) (D : Dx K mg "_check_driven_once" ["lines"] s_check_driven_once)  (X_BadCircuit : Xm P w K mg base "BadCircuit" (He.ga K "BadCircuit") (spX2 (He.ga K "BadCircuit") "reason" "name")) : Fx P w K mg base 3 "_check_driven_once" ["lines"] (spR P w K (R_check_driven_once K)) := by
  refine Fx.ofX D sc_check_driven_once (l_check_driven_once K) fun f cdv A outer s H E hr tk => ?_
  refine ⟨_, (pss_cons (pset (i := 1) sc_check_driven_once.nd (pe_callTy0 cr_set0K (by rfl) T.f_set (by decide +kernel)))
      (pss_one (ps_for (passes_of rfl) rfl (pi_list (pv 0)) (pgn (i := 2) sc_check_driven_once.nd)
      (pss_cons (ps_if (pt_cmpR or_sinK (pv 2) (pv 1) rfl) (pss_one (ps_raise rfl tk (pm_2 X_BadCircuit (hr.mono (by decide)) (pa_cons pe_str (pa_cons (pv 2) pa_nil))))) pss_nil)
      (pss_one (ps_expr (pe_saddK (pv 1) (pa_cons (pv 2) pa_nil)))))))), ?_⟩
  rintro ds r ⟨xs, rfl, hl, rfl⟩
  show Does P w K E _ [.d (.lst (xs.map .str)), .u, .u] _
  refine does_opt (e := [.d (.lst (xs.map .str)), .ow none (.set (setS xs) xs.length), .x]) (e2 := List.replicate 3 .x) _ ?_
  refine se_seq (env1 := [.d (.lst (xs.map .str)), .ow none (.set (setS []) 0), .u]) (se_own (eo_p po_set0)) ?_
  have turn : ∀ (i : Nat) (x : Str), xs[i]? = some x → i < xs.length := fun i x h => (List.getElem?_eq_some_iff.mp h).1
  have hE : ∀ (i : Nat) (d : Dt), (xs.map Dt.str)[i]? = some d → ∃ x, xs[i]? = some x ∧ d = .str x := fun i d h => by
    rw [List.getElem?_map] at h
    cases e : xs[i]? with
    | none => rw [e] at h; cases h
    | some x =>
      rw [e] at h
      exact ⟨x, rfl, (Option.some.inj h).symm⟩
  let En0 : Nat → En := fun i => [.d (.lst (xs.map .str)), .ow none (.set (setS (xs.take i)) i), .x]
  have t1 : ∀ (i : Nat) (x : Str), Te P w K (tTest (tOp (rSInK P w false) (tVar 2) (tVar 1))) ((En0 i).set 2 (.d (.str x))) (decide (x ∈ xs.take i)) ((En0 i).set 2 (.d (.str x))) := fun i x => te_p (tp_is (tp_test (ep_inS (k := .inr x) (S0 := setS (xs.take i)) (m := i) false ep_var)) (setS_in _ _))
  rcases dup_spec xs [] with ⟨h1, h2⟩ | ⟨i, x, h1, h2, h3, h4⟩
  · rw [h1]
    refine se_is (se_for (ie_p (ip_list ep_var)) En0 xs.length (by simp) (Le.s (Le.s (Le.x Le.nil))) (fun i d hi hd => ?_) (.inl ⟨by simp, rfl⟩)) (by simp only [En0, List.take_length]; rfl)
    obtain ⟨x, hx, rfl⟩ := hE i d hd
    refine ⟨_, ge_name, se_nc (se_le (se_when (b := false) (te_is (t1 i x) (decide_eq_false (by simpa using h2 i x hx))) (fun z => nomatch z) fun _ => se_addS (k := .inr x) (S0 := setS (xs.take i)) (m := i) ep_var rfl (by omega)) ?_)⟩
    rw [setS_snoc, show xs.take i ++ [x] = xs.take (i + 1) by rw [List.take_add_one, hx]; rfl]
    exact Le.s (Le.s (Le.x Le.nil))
  · rw [h1]
    have hi := turn i x h2
    refine se_for (ie_p (ip_list ep_var)) En0 i (by simp; omega) (Le.s (Le.s (Le.x Le.nil))) (fun j d hj hd => ?_) (.inr ⟨.str x, _, by rw [List.getElem?_map, h2]; rfl, ge_name, .inl ⟨rfl, (fun _ z => nomatch z), (fun _ z => nomatch z), ?_⟩⟩)
    · obtain ⟨y, hy, rfl⟩ := hE j d hd
      refine ⟨_, ge_name, se_nc (se_le (se_when (b := false) (te_is (t1 j y) (decide_eq_false (by simpa using h4 j y hj hy))) (fun z => nomatch z) fun _ => se_addS (k := .inr y) (S0 := setS (xs.take j)) (m := j) ep_var rfl (by omega)) ?_)⟩
      rw [setS_snoc, show xs.take j ++ [y] = xs.take (j + 1) by rw [List.take_add_one, hy]; rfl]
      exact Le.s (Le.s (Le.x Le.nil))
    · exact se_when (b := true) (te_is (t1 i x) (decide_eq_true (by simpa using h3))) (fun _ => se_lez (se_seqF (se_raise2 (by walk_at "ap"))) (le_x rfl)) (fun z => nomatch z)
/-! ### _check_known, _check_size -/
def R_check_known (K : PySem.W.Frag) (ds : List Dt) (r : Rs) : Prop := ∃ xs ys : List Str, ds = [.lst (xs.map .str), .lst (ys.map .str)] ∧ xs.length ≤ 3000 ∧ ys.length ≤ 40000 ∧ r = orX (badC K "unknown") (ys.find? fun y => !decide (y ∈ xs))
theorem l_check_known (K : PySem.W.Frag) (ds : List Dt) (r : Rs) (h : R_check_known K ds r) : ds.length = 2 := by
  obtain ⟨xs, ys, rfl, _⟩ := h
  rfl
def strOf : Dt → Str
  | .str x => x
  | _ => ""
theorem find_map (ys : List Str) (p : Str → Bool) : (ys.map Dt.str).find? (fun d => p (strOf d)) = (ys.find? p).map Dt.str := by
  induction ys with
  | nil => rfl
  | cons a ys ih =>
    rw [List.map_cons, List.find?_cons, List.find?_cons]
    show (match p a with | true => _ | false => _) = _
    cases p a with
    | true => rfl
    | false => exact ih
theorem map_inr (xs : List Str) : (xs.map Sum.inr).map kD = xs.map Dt.str := by
  rw [List.map_map]
  rfl
theorem se_findX {E : XK} {wi : TI} {g : TG} {tb : TS} {env : En} (ys : List Str) (p : Str → Bool) (f : Str → Xn) (hI : Ip P w K wi env (ys.map .str)) (E1 e2 : En) (h0 : Le env E1)
    (hs : ∀ y ∈ ys, ∃ e1, Ge P w K g (.str y) E1 e1 ∧ (p y = true → Se P w K tb e1 (.rz (fun cls d _ H => E cls d H) (f y) e2)) ∧ (p y = false → Se P w K tb e1 (.nc E1))) : Se P w K (tFor wi g tb) env (outX E E1 e2 f (ys.find? p)) := by
  refine se_is (se_find (fun d => p (strOf d)) (fun d => .rz (fun cls d _ H => E cls d H) (f (strOf d)) e2) (fun d => ⟨rfl, (fun _ z => nomatch z), (fun _ z => nomatch z)⟩) hI E1 h0 fun d hd => ?_) ?_
  · obtain ⟨y, hy, rfl⟩ := List.mem_map.mp hd
    exact hs y hy
  · rw [find_map ys p]
    cases ys.find? p <;> rfl
abbrev s_check_known : Stmt := top 25
abbrev N_check_known : List Str := ["lines", "names", "known", "name"]
theorem sc_check_known : FnScope N_check_known ["lines", "names"] (defScope s_check_known) := ⟨rfl, rfl, rfl, by decide +kernel, rfl, by decide +kernel, by decide +kernel⟩
theorem k_check_known (T : Txt K mg) (D : Dx K mg "_check_known" ["lines", "names"] s_check_known)  (X_BadCircuit : Xm P w K mg base "BadCircuit" (He.ga K "BadCircuit") (spX2 (He.ga K "BadCircuit") "reason" "name")) : Fx P w K mg base 3 "_check_known" ["lines", "names"] (spR P w K (R_check_known K)) := by
  refine Fx.ofX D sc_check_known (l_check_known K) fun f cdv A outer s H E hr tk => ?_
  refine ⟨_, (pss_cons (pset (i := 2) sc_check_known.nd (pe_callTy (Qs.cr_setL rfl) (by rfl) T.f_set (by decide +kernel) (pa_cons (pv 0) pa_nil)))
      (pss_one (ps_for (passes_of rfl) rfl (pi_list (pv 1)) (pgn (i := 3) sc_check_known.nd)
      (pss_one (ps_if (pt_cmpR or_snotinK (pv 3) (pv 2) rfl) (pss_one (ps_raise rfl tk (pm_2 X_BadCircuit (hr.mono (by decide)) (pa_cons pe_str (pa_cons (pv 3) pa_nil))))) pss_nil))))), ?_⟩
  rintro ds r ⟨xs, ys, rfl, hl, hl2, rfl⟩
  show Does P w K E _ [.d (.lst (xs.map .str)), .d (.lst (ys.map .str)), .u, .u] _
  refine does_opt (e := [.d (.lst (xs.map .str)), .d (.lst (ys.map .str)), .ow none (.set (setS xs) xs.length), .x]) (e2 := List.replicate 4 .x) _ ?_
  refine se_seq (env1 := [.d (.lst (xs.map .str)), .d (.lst (ys.map .str)), .ow none (.set (setS xs) xs.length), .u]) (se_own (eo_p ?_)) ?_
  · have h := po_setL (P := P) (w := w) (K := K) (env := [.d (.lst (xs.map .str)), .d (.lst (ys.map .str)), .u, .u]) (tA := tCons (tVar 0) tNil) (ks := xs.map Sum.inr) (ap_cons (by rw [map_inr]; exact ep_var) ap_nil) (by simp; omega)
    rw [List.length_map] at h
    exact h
  · refine se_findX ys _ _ (ip_list ep_var) _ _ (Le.s (Le.s (Le.s (Le.x Le.nil)))) fun y hy => ⟨_, ge_name, fun hp => ?_, fun hp => ?_⟩
    · exact se_if (b := true) (te_p (tp_is (tp_test (ep_inS (k := .inr y) (S0 := setS xs) (m := xs.length) true ep_var)) ((congrArg (!·) (setS_in xs y)).trans hp))) (fun _ => se_lez (se_raise2 (by walk_at "ap")) (le_x rfl)) (fun z => nomatch z)
    · exact se_nc (se_le (se_if (b := false) (te_p (tp_is (tp_test (ep_inS (k := .inr y) (S0 := setS xs) (m := xs.length) true ep_var)) ((congrArg (!·) (setS_in xs y)).trans hp))) (fun z => nomatch z) (fun _ => se_next)) (Le.s (Le.s (Le.s (Le.x Le.nil)))))
def R_check_size (K : PySem.W.Frag) (ds : List Dt) (r : Rs) : Prop := ∃ xs ys : List Dt, ds = [.lst xs, .lst ys] ∧ r = if xs.length ≤ 400 ∧ ys.length ≤ 40 then .d .non else .x (badC K "size" "")
theorem l_check_size (K : PySem.W.Frag) (ds : List Dt) (r : Rs) (h : R_check_size K ds r) : ds.length = 2 := by
  obtain ⟨xs, ys, rfl, _⟩ := h
  rfl
abbrev s_check_size : Stmt := top 26
abbrev N_check_size : List Str := ["lines", "sources"]
theorem sc_check_size : FnScope N_check_size ["lines", "sources"] (defScope s_check_size) := ⟨rfl, rfl, rfl, by decide +kernel, rfl, by decide +kernel, by decide +kernel⟩
theorem k_check_size (T : Txt K mg) (D : Dx K mg "_check_size" ["lines", "sources"] s_check_size)  (X_BadCircuit : Xm P w K mg base "BadCircuit" (He.ga K "BadCircuit") (spX2 (He.ga K "BadCircuit") "reason" "name")) : Fx P w K mg base 3 "_check_size" ["lines", "sources"] (spR P w K (R_check_size K)) := by
  refine Fx.ofX D sc_check_size (l_check_size K) fun f cdv A outer s H E hr tk => ?_
  refine ⟨_, (pss_one (ps_if (PW.pt (pw_or (pt_cmpR op_gt (pe_callB cr_len (by rfl) T.f_len PySem.boot_len (pa_cons (pv 0) pa_nil)) (pe_globI T.g_MOST_LINES) (nomark _)) (pw_or1 (pt_cmpR op_gt (pe_callB cr_len (by rfl) T.f_len PySem.boot_len (pa_cons (pv 1) pa_nil)) (pe_globI T.g_MOST_SOURCES) (nomark _))))) (pss_one (ps_raise rfl tk (pm_2 X_BadCircuit (hr.mono (by decide)) (pa_cons pe_str (pa_cons pe_str pa_nil))))) pss_nil)), ?_⟩
  rintro ds r ⟨xs, ys, rfl, rfl⟩
  show Does P w K E _ [.d (.lst xs), .d (.lst ys)] _
  refine does_if (e := [.d (.lst xs), .d (.lst ys)]) ?_
  refine se_if (b := decide ((400 : Int) < xs.length) || decide ((40 : Int) < ys.length)) (te_p (tp_or (by walk_at "tp") fun _ => by walk_at "tp")) (fun hb => ?_) (fun hb => ?_)
  · rw [if_neg]
    · exact se_raise2 (by walk_at "ap")
    · rintro ⟨h1, h2⟩
      simp only [Bool.or_eq_true, decide_eq_true_eq] at hb
      omega
  · rw [if_pos]
    · exact se_next
    · simp only [Bool.or_eq_false_iff, decide_eq_false_iff_not] at hb
      omega
end
end CC

set_option maxHeartbeats 400000
namespace CC
open PySem PySem.Spec PyProof.Rows L2 Qw
open Evl hiding ea_cons
open Pw (Dt Rp RpL Wk R2d R1d RLd RLn Kq KqL truD flatD fl py pyL rangeD charsD spX2 Xm Xm0 tyD isI isB isS isTp isL rl_isInt rl_isBool rl_isStr rl_isTup rl_isList rl_int rl_max2 rl_min2 rl_len rl_lenT rl_tup rl_tupT rl_lenS rl_all rl_any rn_list rn_listT r2_I0 r2_B0 r2_eqI r2_neI r2_eqS r2_neS r2_eq r2_ne r2_I r2_inS r2_niS r2_in r2_inT r2_ixL r2_ixT r2_ixS r2_addS r2_eqD r2_neD r2_ixM r1_U ixN_at itemD cr_int cr_min2 cr_max2 cr_list cr_tuple cr_len pe_globI pe_globS pe_globR pe_tyname rTupS rInt1 rMin2)
local macro_rules | `(tactic| walk_at "side") => `(tactic| first
  | decide | omega | assumption | (show (0 : Int) < _; omega) | exact (show CDiv _ _ from ⟨by omega, by omega⟩) | exact (show CMul _ _ from Or.inr ⟨by omega, by omega⟩) | exact (show CMul _ _ from Or.inl ⟨by omega, by omega⟩) | exact (show CPow _ _ from ⟨by decide, by decide, by decide⟩))
local macro_rules | `(tactic| walk_at "op") => `(tactic| first
  | exact r2_I0 | exact r2_B0 | exact r2_eqI | exact r2_neI | exact r2_eqS | exact r2_neS
  | exact r2_eq rfl rfl rfl | exact r2_ne rfl rfl rfl
  | (refine' r2_I ?_; walk_at "side") | exact r2_inS | exact r2_niS)
local macro_rules | `(tactic| walk_at "rl") => `(tactic| first
  | exact rl_int | exact rl_max2 | exact rl_min2 | exact rl_len | exact rl_lenT | exact rl_isInt (by first | rfl | assumption) | exact rl_isBool (by first | rfl | assumption) | exact rl_isStr (by first | rfl | assumption) | exact rl_isTup (by first | rfl | assumption) | exact rl_isList (by first | rfl | assumption) | exact rl_tup | exact rl_tupT | (refine' rl_lenS ?_; walk_at "side"))
local macro_rules | `(tactic| walk_at "ap") => `(tactic| first
  | exact ap_nil
  | (refine' ap_cons ?eah ?eat; (case eah => walk_at "ep"); (case eat => walk_at "ap")))
local macro_rules | `(tactic| walk_at "ep") => `(tactic| first
  | exact ep_int | exact ep_bl | exact ep_str | exact ep_non | exact ep_ty | exact ep_var
  | (refine' ep_op ?eva ?evb ?evc; (case eva => walk_at "ep"); (case evb => walk_at "ep"); (case evc => walk_at "op"))
  | (refine' ep_cb ?evd ?eve; (case evd => walk_at "ap"); (case eve => walk_at "rl"))
  | (refine' ep_un ?evf r1_U; (case evf => walk_at "ep"))
  | (refine' ep_tup ?evg ?evi; (case evg => walk_at "ap"); (case evi => exact Nat.le_of_ble_eq_true rfl))
  | (refine' ep_lst ?evh ?evj; (case evh => walk_at "ap"); (case evj => exact Nat.le_of_ble_eq_true rfl))
  | assumption)
local macro_rules | `(tactic| walk_at "ee") => `(tactic| (refine' ee_p ?eep; (case eep => walk_at "ep")))
local macro_rules | `(tactic| walk_at "te") => `(tactic| (refine' te_p ?tep; (case tep => walk_at "tp")))
local macro_rules | `(tactic| walk_at "tp") => `(tactic| first
  | (refine' tp_test ?tea; (case tea => walk_at "ep"))
  | (refine' tp_B ?teb; (case teb => walk_at "ep"))
  | (refine' tp_not ?tec; (case tec => walk_at "tp"))
  | (refine' tp_or ?ted ?tee; (case ted => walk_at "tp"); (case tee => intro _; walk_at "tp"))
  | (refine' tp_and ?tef ?teg; (case tef => walk_at "tp"); (case teg => intro _; walk_at "tp"))
  | assumption)
section
variable {P : Program} {w : World} {K : PySem.W.Frag} {mg : Str → Option Value} {base : Heap}

/-! ### gates, typed; _in_order -/
structure Gt where
  l : Str
  k : Str
  ps : List Str
deriving DecidableEq
def Gt.d (g : Gt) : Dt := .tup [.str g.l, .str g.k, .tup (g.ps.map .str)]
def ins (xs : List Str) (x : Str) : List Str := if x ∈ xs then xs else xs ++ [x]
def kn (xs : List Str) : KD := xs.map fun x => (.inr x, .bl true)
theorem val_kn (xs : List Str) (x : Str) : (valD (kn xs) (.inr x)).isSome = decide (x ∈ xs) := by
  unfold valD kn
  induction xs with
  | nil => simp
  | cons a xs ih =>
    rw [List.map_cons, List.find?_cons]
    by_cases e : a = x
    · subst e; simp
    · have : decide ((Sum.inr a : Key) = Sum.inr x) = false := decide_eq_false fun h => e (Sum.inr.inj h)
      simp only [this]
      rw [ih]
      exact decide_eq_decide.mpr (by simp [Ne.symm e])
theorem put_kn (xs : List Str) (x : Str) : putD (kn xs) (.inr x) (.bl true) = kn (ins xs x) := by
  unfold putD ins
  have hany : ((kn xs).any fun kv => decide (kv.1 = Sum.inr x)) = decide (x ∈ xs) := by
    unfold kn
    induction xs with
    | nil => simp
    | cons a xs ih =>
      rw [List.map_cons, List.any_cons, ih]
      have : decide ((Sum.inr a : Key) = Sum.inr x) = decide (x = a) := decide_eq_decide.mpr ⟨fun h => (Sum.inr.inj h).symm, fun h => by rw [h]⟩
      rw [this]
      simp
  rw [hany]
  by_cases e : x ∈ xs
  · rw [if_pos (decide_eq_true e), if_pos e]
    unfold kn
    rw [List.map_map]
    refine List.map_congr_left fun a _ => ?_
    show (if (Sum.inr a : Key) = Sum.inr x then ((Sum.inr a : Key), Dt.bl true) else _) = _
    split <;> rfl
  · rw [if_neg (by simpa using e), if_neg e]
    simp [kn]
theorem ins_len (xs : List Str) (x : Str) : (ins xs x).length ≤ xs.length + 1 := by
  unfold ins
  split <;> simp
theorem kn_len (xs : List Str) : (kn xs).length = xs.length := by simp [kn]
structure Os where
  kn : List Str
  fo : List Gt
  le : List Gt
def ostep (s : Os) (g : Gt) : Os := if (g.ps.all fun p => decide (p ∈ s.kn)) = true then ⟨ins s.kn g.l, s.fo ++ [g], s.le⟩ else ⟨s.kn, s.fo, s.le ++ [g]⟩
def opass (k : List Str) (fo ws : List Gt) : Os := ws.foldl ostep ⟨k, fo, []⟩
def ordN : Nat → List Str → List Gt → List Gt → Except Str (List Str × List Gt)
  | _, k, fo, [] => .ok (k, fo)
  | 0, _, _, g :: _ => .error g.l
  | n + 1, k, fo, g :: ws => if (opass k fo (g :: ws)).le.length = (g :: ws).length then .error (((opass k fo (g :: ws)).le.head?.map Gt.l).getD "") else ordN n (opass k fo (g :: ws)).kn (opass k fo (g :: ws)).fo (opass k fo (g :: ws)).le
def order (src : List Str) (gs : List Gt) : Except Str (List Str × List Gt) := ordN gs.length (src.foldl ins []) [] gs
def ordR (K : PySem.W.Frag) : Except Str (List Str × List Gt) → Rs
  | .ok l => .o (.lst (l.2.map Gt.d))
  | .error x => .x (badC K "loop" x)
def R_in_order (K : PySem.W.Frag) (ds : List Dt) (r : Rs) : Prop := ∃ (src : List Str) (gs : List Gt), ds = [.lst (src.map .str), .tup (gs.map Gt.d)] ∧ (src.length ≤ 3000 ∧ gs.length ≤ 3000 ∧ ∀ g ∈ gs, g.ps.length ≤ 30000) ∧ r = ordR K (order src gs)
theorem l_in_order (K : PySem.W.Frag) (ds : List Dt) (r : Rs) (h : R_in_order K ds r) : ds.length = 2 := by
  obtain ⟨xs, ys, rfl, _⟩ := h
  rfl
theorem opass_len (ws : List Gt) : ∀ s : Os, (ws.foldl ostep s).fo.length + (ws.foldl ostep s).le.length = s.fo.length + s.le.length + ws.length ∧ (s.le.length ≤ (ws.foldl ostep s).le.length ∧ s.fo.length ≤ (ws.foldl ostep s).fo.length) ∧ (ws.foldl ostep s).kn.length + s.fo.length ≤ s.kn.length + (ws.foldl ostep s).fo.length ∧ (∀ g ∈ (ws.foldl ostep s).le, g ∈ s.le ∨ g ∈ ws) := by
  induction ws with
  | nil => intro s; exact ⟨rfl, ⟨Nat.le_refl _, Nat.le_refl _⟩, Nat.le_refl _, fun g h => .inl h⟩
  | cons g ws ih =>
    intro s
    obtain ⟨h1, h2, h3, h4⟩ := ih (ostep s g)
    have e : (ostep s g).fo.length + (ostep s g).le.length = s.fo.length + s.le.length + 1 ∧ (s.le.length ≤ (ostep s g).le.length ∧ s.fo.length ≤ (ostep s g).fo.length) ∧ (ostep s g).kn.length + s.fo.length ≤ s.kn.length + (ostep s g).fo.length ∧ (∀ x ∈ (ostep s g).le, x ∈ s.le ∨ x = g) := by
      unfold ostep
      split
      · have := ins_len s.kn g.l
        refine ⟨by simp; omega, ⟨Nat.le_refl _, by simp⟩, by simp; omega, fun x h => .inl h⟩
      · refine ⟨by simp; omega, ⟨by simp, by simp⟩, by simp, fun x h => by simpa using h⟩
    simp only [List.foldl_cons, List.length_cons]
    refine ⟨by omega, ⟨by omega, by omega⟩, by omega, fun x hx => ?_⟩
    rcases h4 x hx with h | h
    · rcases e.2.2.2 x h with h | h
      · exact .inl h
      · exact .inr (by simp [h])
    · exact .inr (by simp [h])
theorem itm {ds : List Dt} {i : Nat} {z : Dt} (h : ds[i]? = some z) : R2d K (rIxT K) (.tup ds) (.int (i : Int)) z := r2_ixT (ixN_nat (List.getElem?_eq_some_iff.mp h).1) h
theorem itmL {ds : List Dt} {i : Nat} {z : Dt} (h : ds[i]? = some z) : R2d K (rIxL K) (.lst ds) (.int (i : Int)) z := r2_ixL (ixN_nat (List.getElem?_eq_some_iff.mp h).1) h
theorem se_seqO {s1 s2 : TS} {env : En} {o1 o : Out} (h1 : Se P w K s1 env o1) (h2 : (∃ env1, o1 = .nx env1 ∧ Se P w K s2 env1 o) ∨ (o1.fin = true ∧ o = o1)) : Se P w K (tSeq s1 s2) env o := by
  rcases h2 with ⟨e1, rfl, h2⟩ | ⟨f, rfl⟩
  · exact se_seq h1 h2
  · exact se_seqF h1 f
theorem se_whileO {t : TT} {tb : TS} {env : En} {o : Out} (Pv : En → Prop) (μ : En → Nat) (hs : ∀ e, Pv e → ∃ b, Te P w K t e b e ∧ (b = true → ∃ o', Se P w K tb e o' ∧ ((∃ e', o' = .nc e' ∧ Pv e' ∧ μ e' < μ e) ∨ (o' = o ∧ o.fin = true ∧ (∀ e, o ≠ .bk e) ∧ (∀ e, o ≠ .ct e)) ∨ ∃ e', o' = .bk e' ∧ o = .nx e')) ∧ (b = false → o = .nx e)) (h0 : Pv env) : Se P w K (tWhile t tb) env o :=
  se_while Pv μ (fun e he => by
    obtain ⟨b, h1, h2, h3⟩ := hs e he
    refine ⟨b, h1, fun hb => ?_, h3⟩
    obtain ⟨o', g1, g2⟩ := h2 hb
    rcases g2 with ⟨e', rfl, g3, g4⟩ | ⟨rfl, g3, g4, g5⟩ | ⟨e', rfl, g3⟩
    · exact .inl ⟨e', g3, g4, g1⟩
    · exact .inr (.inl ⟨g3, g4, g5, g1⟩)
    · exact .inr (.inr ⟨e', g3, g1⟩)) h0
def wIO (E : XK) (K : PySem.W.Frag) (Wn : List Str → List Gt → List Gt → En) : Except Str (List Str × List Gt) → Out
  | .ok l => .nx (Wn l.1 l.2 [])
  | .error x => .rz (fun cls d _ H => E cls d H) (badC K "loop" x) (List.replicate 9 .x)
def oIO (E : XK) (K : PySem.W.Frag) : Except Str (List Str × List Gt) → Out
  | .ok l => .ro (.lst (l.2.map Gt.d))
  | .error x => .rz (fun cls d _ H => E cls d H) (badC K "loop" x) (List.replicate 9 .x)
theorem does_ord {E : XK} {s : TS} {env : En} {r : Except Str (List Str × List Gt)} (h : Se P w K s env (oIO E K r)) : Does P w K E s env (ordR K r) := by
  cases r with
  | ok l => exact h
  | error x => exact ⟨_, h⟩
theorem fold_kn (l : List Str) : ∀ q : List Str, (l.filter fun _ => true).foldl (fun q a => putD q (.inr a) (.bl true)) (kn q) = kn (l.foldl ins q) := by
  have e : l.filter (fun _ => true) = l := by simp
  rw [e]
  induction l with
  | nil => intro q; rfl
  | cons a l ih =>
    intro q
    rw [List.foldl_cons, put_kn, ih, List.foldl_cons]
    simp
theorem foldins_len (l : List Str) : ∀ q : List Str, (l.foldl ins q).length ≤ q.length + l.length := by
  induction l with
  | nil => intro q; exact Nat.le_refl _
  | cons a l ih =>
    intro q
    have h1 := ih (ins q a)
    have h2 := ins_len q a
    simp only [List.foldl_cons, List.length_cons]
    omega
def wlen (e : En) : Nat := match (e[5]? : Option Sl) with
  | some (Sl.d (Dt.lst l)) => l.length
  | _ => 0
set_option maxHeartbeats 2000000
abbrev s_in_order : Stmt := top 27
abbrev N_in_order : List Str := ["sources", "gates", "known", "line", "found", "waiting", "left", "gate", "pin"]
theorem sc_in_order : FnScope N_in_order ["sources", "gates"] (defScope s_in_order) := ⟨rfl, rfl, rfl, by decide +kernel, rfl, by decide +kernel, by decide +kernel⟩
theorem k_in_order (T : Txt K mg) (D : Dx K mg "_in_order" ["sources", "gates"] s_in_order)  (X_BadCircuit : Xm P w K mg base "BadCircuit" (He.ga K "BadCircuit") (spX2 (He.ga K "BadCircuit") "reason" "name")) : Fx P w K mg base 3 "_in_order" ["sources", "gates"] (spR P w K (R_in_order K)) := by
  refine Fx.ofX D sc_in_order (l_in_order K) fun f cdv A outer s H E hr tk => ?_
  have hu : (A.deeper (envOfC "_in_order" (defScope s_in_order) s.heap.objs.size f cdv)).units + 64 < cLine := hr.units
  have hu1 : (A.deeper (envOfC "_in_order" (defScope s_in_order) s.heap.objs.size f cdv)).units + 1 < cLine := Nat.lt_of_le_of_lt (Nat.add_le_add_left (by decide) _) hu
  refine ⟨_, (pss_cons (pset (i := 2) sc_in_order.nd (pe_dc (own := [("line", 3)]) (g := gName 3) (tt := tYes) rfl sc_in_order.nd (pi_list (pv 0)) (blkOk_by (N := N_in_order) (sc := defScope s_in_order) (by decide +kernel)) (fun _ _ _ _ _ => (pgn (i := 3) sc_in_order.nd)) (fun _ _ _ _ _ => pts_nil) (fun _ _ _ _ _ => (pv 3)) (fun _ _ _ _ _ => pe_bl)))
      (pss_cons (pset (i := 4) sc_in_order.nd (pe_lst pa_nil))
      (pss_cons (pset (i := 5) sc_in_order.nd (pe_callTy cr_list (by rfl) T.f_list (by decide +kernel) (pa_cons (pv 1) pa_nil)))
      (pss_cons (ps_while (passes_of rfl) (pt_truth (pv 5) (fun _ => rfl))
      (pss_cons (pset (i := 6) sc_in_order.nd (pe_lst pa_nil))
      (pss_cons (ps_for (passes_of rfl) rfl (pi_list (pv 5)) (pgn (i := 7) sc_in_order.nd)
      (pss_one (ps_if (pt_val (pe_callB (cr_all rfl) (by rfl) T.f_all (by decide +kernel) (pa_cons (pe_lc (own := [("pin", 8)]) (g := gName 8) (tt := tYes) rfl sc_in_order.nd (pi_tup (pe_ix ix_tup (pv 7) pe_int (fun _ _ => rfl))) (blkOk_by (N := N_in_order) (sc := defScope s_in_order) (by decide +kernel)) (fun _ _ _ _ _ => (pgn (i := 8) sc_in_order.nd)) (fun _ _ _ _ _ => pts_nil) (fun _ _ _ _ _ => (pe_cmp (pc_din hu1 (pv 8) (pv 2))))) pa_nil))) (pss_cons (ps_dput hu1 (pv 2) (pe_ix ix_tup (pv 7) pe_int (fun _ _ => rfl)) pe_bl rfl)
      (pss_one (ps_expr (pe_bm PySem.F.plainAttrs_list PySem.F.slot_list_append PySem.F.type_list_append mt_append (pv 4) (pa_cons (pv 7) pa_nil))))) (pss_one (ps_expr (pe_bm PySem.F.plainAttrs_list PySem.F.slot_list_append PySem.F.type_list_append mt_append (pv 6) (pa_cons (pv 7) pa_nil)))))))
      (pss_cons (ps_if (pt_cmpR op_eq (pe_callB cr_len (by rfl) T.f_len PySem.boot_len (pa_cons (pv 6) pa_nil)) (pe_callB cr_len (by rfl) T.f_len PySem.boot_len (pa_cons (pv 5) pa_nil)) (nomark _)) (pss_one (ps_raise rfl tk (pm_2 X_BadCircuit (hr.mono (by decide)) (pa_cons pe_str (pa_cons (pe_ix ix_tup (pe_ix ix_list (pv 6) pe_int (fun _ _ => rfl)) pe_int (fun _ _ => rfl)) pa_nil))))) pss_nil)
      (pss_one (pset (i := 5) sc_in_order.nd (pv 6)))))))
      (pss_one (ps_ret (pv 4))))))), ?_⟩
  rintro ds r ⟨src, gs, rfl, ⟨z1, z2, z3⟩, rfl⟩
  show Does P w K E _ [.d (.lst (src.map .str)), .d (.tup (gs.map Gt.d)), .u, .u, .u, .u, .u, .u, .u] _
  let Wn : List Str → List Gt → List Gt → En := fun k fo ws => [.d (.lst (src.map .str)), .d (.tup (gs.map Gt.d)), .ow none (.dk (kn k)), .x, .ow none (.lst (fo.map Gt.d)), .d (.lst (ws.map Gt.d)), .x, .x, .x]
  refine does_ord ?_
  refine se_seq (env1 := [.d (.lst (src.map .str)), .d (.tup (gs.map Gt.d)), .ow none (.dk (kn (src.foldl ins []))), .u, .u, .u, .u, .u, .u]) ?_ ?_
  · have h := po_dc (P := P) (w := w) (K := K) (tt := tYes) (ty := tVar 3) (te := tC (.bl true)) (g := gName 3) (wi := iList K (tVar 0)) (env := [.d (.lst (src.map .str)), .d (.tup (gs.map Gt.d)), .u, .u, .u, .u, .u, .u, .u]) (vs := [3]) src Dt.str (ip_list ep_var) (by omega) (fun _ => true) Sum.inr (fun _ => .bl true) fun i a h => ⟨_, gc_name, tp_yes, fun _ => ⟨ep_var, ep_bl⟩⟩
    rw [show (src.filter fun _ => true).foldl (fun q a => putD q (.inr a) (.bl true)) [] = kn (src.foldl ins []) from fold_kn src []] at h
    exact se_own (eo_p h)
  refine se_seq (se_own (en_p (np_lst ap_nil))) ?_
  refine se_seq (se_asg (d := .lst (gs.map Gt.d)) (ee_p (ep_new (np_cb (ap_cons ep_var ap_nil) rn_listT)))) ?_
  refine se_seqO (o1 := wIO E K Wn (order src gs)) (se_pre (env1 := Wn (src.foldl ins []) [] gs) (Le.s (Le.s (Le.s (Le.x (Le.s (Le.s (Le.x (Le.x (Le.x Le.nil))))))))) ?_) ?_
  · refine se_whileO (fun e => ∃ k fo ws, e = Wn k fo ws ∧ k.length ≤ 3000 + fo.length ∧ fo.length + ws.length ≤ 3000 ∧ (∀ g ∈ ws, g.ps.length ≤ 30000) ∧ ∃ n, ws.length ≤ n ∧ ordN n k fo ws = order src gs) wlen ?_ ⟨_, _, _, rfl, by have := foldins_len src []; simp at this; simp; omega, by simpa using z2, z3, gs.length, Nat.le_refl _, rfl⟩
    rintro e ⟨k, fo, ws, rfl, hk, hf, hp, n, hn, ho⟩
    refine ⟨_, te_p (tp_tru ep_var rfl), fun hb => ?_, fun hb => ?_⟩
    · obtain ⟨n, rfl⟩ : ∃ m, n = m + 1 := by
        cases n with
        | zero =>
          cases ws with
          | nil => cases hb
          | cons g r => simp at hn
        | succ n => exact ⟨n, rfl⟩
      have hne : ws ≠ [] := by rintro rfl; cases hb
      have hord : ordN (n + 1) k fo ws = if (opass k fo ws).le.length = ws.length then .error (((opass k fo ws).le.head?.map Gt.l).getD "") else ordN n (opass k fo ws).kn (opass k fo ws).fo (opass k fo ws).le := by
        cases ws with
        | nil => exact absurd rfl hne
        | cons g r => rfl
      obtain ⟨q1, q2, q3, q4⟩ := opass_len ws ⟨k, fo, []⟩
      have q1 : (opass k fo ws).fo.length + (opass k fo ws).le.length = fo.length + ws.length := by simpa [opass] using q1
      have q2 : fo.length ≤ (opass k fo ws).fo.length := q2.2
      have q3 : (opass k fo ws).kn.length + fo.length ≤ k.length + (opass k fo ws).fo.length := q3
      have q4 : ∀ g ∈ (opass k fo ws).le, g ∈ ws := fun g h => by simpa using q4 g h
      refine ⟨if (opass k fo ws).le.length = ws.length then wIO E K Wn (order src gs) else .nc (Wn (opass k fo ws).kn (opass k fo ws).fo (opass k fo ws).le), ?_, ?_⟩
      · refine se_seq (se_own (en_p (np_lst ap_nil))) ?_
        let En1 : Os → En := fun s => [.d (.lst (src.map .str)), .d (.tup (gs.map Gt.d)), .ow none (.dk (kn s.kn)), .x, .ow none (.lst (s.fo.map Gt.d)), .d (.lst (ws.map Gt.d)), .ow none (.lst (s.le.map Gt.d)), .x, .x]
        refine se_seq (env1 := En1 (opass k fo ws)) (se_fold ws Gt.d rfl (ip_list ep_var) En1 ostep (fun s pre => s.fo.length + s.le.length = fo.length + pre.length ∧ s.kn.length ≤ k.length + pre.length) ⟨k, fo, []⟩ ?_ ⟨by simp, by simp⟩ ?_) ?_
        · exact Le.s (Le.s (Le.s (Le.s (Le.s (Le.s (Le.s (Le.s (Le.s Le.nil))))))))
        · rintro s pre g post hx ⟨p1, p2⟩
          have hlen := congrArg List.length hx
          simp at hlen
          have hg : g ∈ ws := by rw [hx]; simp
          refine ⟨?_, _, ge_name, ?_⟩
          · unfold ostep
            have := ins_len s.kn g.l
            split <;> simp <;> omega
          · have item2 : ∀ {en : En}, en[7]? = some (.d g.d) → Ep P w K (tOp (rIxT K) (tVar 7) (tC (.int 2))) en (.tup (g.ps.map .str)) := fun h => ep_op (ep_var h) ep_int (itm (i := 2) rfl)
            have item0 : ∀ {en : En}, en[7]? = some (.d g.d) → Ep P w K (tOp (rIxT K) (tVar 7) (tC (.int 0))) en (.str g.l) := fun h => ep_op (ep_var h) ep_int (itm (i := 0) rfl)
            refine se_nc (se_le (se_if (b := g.ps.all fun p => decide (p ∈ s.kn)) (env1 := (En1 s).set 7 (.d g.d)) (te_p (tp_B (ep_is (ep_cb (ap_cons (ep_is (ep_new (np_mapT g.ps Dt.str (ip_tup (item2 rfl)) (by have := hp g hg; omega) (fun p => .bl (decide (p ∈ s.kn))) fun i p hip => ep_is (ep_din (kvs := kn s.kn) (k := .inr p) (edk_o rfl) ep_var) (by rw [val_kn]))) (e := .lst ((g.ps.map fun p => decide (p ∈ s.kn)).map .bl)) (by rw [List.map_map]; rfl)) ap_nil) rl_all) (by rw [List.all_map]; rfl)))) (o := .nx ((En1 (ostep s g)).set 7 (.d g.d))) (fun hb => ?_) (fun hb => ?_)) (Le.s (Le.s (Le.s (Le.s (Le.s (Le.s (Le.s (Le.x (Le.s Le.nil))))))))))
            · have e : ostep s g = ⟨ins s.kn g.l, s.fo ++ [g], s.le⟩ := if_pos hb
              rw [e]
              refine se_is (se_seq (se_dput (kvs := kn s.kn) (k := .inr g.l) (d := .bl true) (ee_p ep_bl) (item0 rfl) rfl (by rw [kn_len]; omega)) (se_app (xs := s.fo.map Gt.d) rfl (ee_p ep_var) rfl (by simp; omega))) ?_
              rw [put_kn]
              simp [En1]
            · have e : ostep s g = ⟨s.kn, s.fo, s.le ++ [g]⟩ := if_neg (by rw [hb]; exact Bool.false_ne_true)
              rw [e]
              refine se_is (se_app (xs := s.le.map Gt.d) rfl (ee_p ep_var) rfl (by simp; omega)) ?_
              simp [En1]
        · refine se_freeze (i := 6) (t' := none) (v := .lst ((opass k fo ws).le.map Gt.d)) rfl rfl ?_
          refine se_when (b := decide ((opass k fo ws).le.length = ws.length)) (te_p (tp_is (tp_test (ep_op (ep_cb (ap_cons (ep_var rfl) ap_nil) rl_len) (ep_cb (ap_cons (ep_var rfl) ap_nil) rl_len) r2_eqI)) ?_)) (fun hc => ?_) (fun hc => ?_)
          · rw [List.length_map, List.length_map]
            exact decide_eq_decide.mpr (by omega)
          · have hc := of_decide_eq_true hc
            rw [if_pos hc]
            have horder : order src gs = .error (((opass k fo ws).le.head?.map Gt.l).getD "") := by rw [← ho, hord, if_pos hc]
            rw [horder]
            cases hle : (opass k fo ws).le with
            | nil =>
              rw [hle] at hc
              exact absurd (List.length_eq_zero_iff.mp hc.symm) hne
            | cons g r =>
              refine se_seqF (se_lez (se_raise2 (d := .str "loop") (e := .str g.l) (ap_cons ep_str (ap_cons (ep_op (ep_op (d := .lst ((g :: r).map Gt.d)) (ep_var rfl) ep_int (itmL (i := 0) rfl)) ep_int (itm (i := 0) rfl)) ap_nil))) (le_x rfl))
          · have hc := of_decide_eq_false hc
            rw [if_neg hc]
            exact se_nc (se_le (se_asg (ee_p (ep_var rfl))) (Le.s (Le.s (Le.s (Le.s (Le.s (Le.s (Le.x (Le.s (Le.s Le.nil))))))))))
      · by_cases hc : (opass k fo ws).le.length = ws.length
        · rw [if_pos hc]
          have horder : order src gs = .error (((opass k fo ws).le.head?.map Gt.l).getD "") := by rw [← ho, hord, if_pos hc]
          rw [horder]
          exact .inr (.inl ⟨rfl, rfl, (fun _ z => nomatch z), (fun _ z => nomatch z)⟩)
        · rw [if_neg hc]
          refine .inl ⟨_, rfl, ⟨_, _, _, rfl, by omega, by omega, fun g h => hp g (q4 g h), n, by omega, by rw [← ho, hord, if_neg hc]⟩, ?_⟩
          show ((opass k fo ws).le.map Gt.d).length < (ws.map Gt.d).length
          simp
          omega
    · have hws : ws = [] := by
        cases ws with
        | nil => rfl
        | cons g r => cases hb
      subst hws
      have : order src gs = .ok (k, fo) := by rw [← ho]; cases n <;> rfl
      rw [this]
      rfl
  · cases order src gs with
    | ok l => exact .inl ⟨_, rfl, se_roV (t' := none) rfl⟩
    | error x => exact .inr ⟨rfl, rfl⟩
end
end CC

set_option maxHeartbeats 400000
namespace CC
open PySem PySem.Spec PyProof.Rows L2 Qw
open Evl hiding ea_cons
open Pw (Dt Rp RpL Wk R2d R1d RLd RLn Kq KqL truD flatD fl py pyL rangeD charsD spX2 Xm Xm0 tyD isI isB isS isTp isL rl_isInt rl_isBool rl_isStr rl_isTup rl_isList rl_int rl_max2 rl_min2 rl_len rl_lenT rl_tup rl_tupT rl_lenS rl_all rl_any rn_list rn_listT r2_I0 r2_B0 r2_eqI r2_neI r2_eqS r2_neS r2_eq r2_ne r2_I r2_inS r2_niS r2_in r2_inT r2_ixL r2_ixT r2_ixS r2_addS r2_eqD r2_neD r2_ixM r1_U ixN_at itemD cr_int cr_min2 cr_max2 cr_list cr_tuple cr_len pe_globI pe_globS pe_globR pe_tyname rTupS rInt1 rMin2)
local macro_rules | `(tactic| walk_at "side") => `(tactic| first
  | decide | omega | assumption | (show (0 : Int) < _; omega) | exact (show CDiv _ _ from ⟨by omega, by omega⟩) | exact (show CMul _ _ from Or.inr ⟨by omega, by omega⟩) | exact (show CMul _ _ from Or.inl ⟨by omega, by omega⟩) | exact (show CPow _ _ from ⟨by decide, by decide, by decide⟩))
local macro_rules | `(tactic| walk_at "op") => `(tactic| first
  | exact r2_I0 | exact r2_B0 | exact r2_eqI | exact r2_neI | exact r2_eqS | exact r2_neS
  | exact r2_eq rfl rfl rfl | exact r2_ne rfl rfl rfl
  | (refine' r2_I ?_; walk_at "side") | exact r2_inS | exact r2_niS)
local macro_rules | `(tactic| walk_at "rl") => `(tactic| first
  | exact rl_int | exact rl_max2 | exact rl_min2 | exact rl_len | exact rl_lenT | exact rl_isInt (by first | rfl | assumption) | exact rl_isBool (by first | rfl | assumption) | exact rl_isStr (by first | rfl | assumption) | exact rl_isTup (by first | rfl | assumption) | exact rl_isList (by first | rfl | assumption) | exact rl_tup | exact rl_tupT | (refine' rl_lenS ?_; walk_at "side"))
local macro_rules | `(tactic| walk_at "ap") => `(tactic| first
  | exact ap_nil
  | (refine' ap_cons ?eah ?eat; (case eah => walk_at "ep"); (case eat => walk_at "ap")))
local macro_rules | `(tactic| walk_at "ep") => `(tactic| first
  | exact ep_int | exact ep_bl | exact ep_str | exact ep_non | exact ep_ty | exact ep_var
  | (refine' ep_op ?eva ?evb ?evc; (case eva => walk_at "ep"); (case evb => walk_at "ep"); (case evc => walk_at "op"))
  | (refine' ep_cb ?evd ?eve; (case evd => walk_at "ap"); (case eve => walk_at "rl"))
  | (refine' ep_un ?evf r1_U; (case evf => walk_at "ep"))
  | (refine' ep_tup ?evg ?evi; (case evg => walk_at "ap"); (case evi => exact Nat.le_of_ble_eq_true rfl))
  | (refine' ep_lst ?evh ?evj; (case evh => walk_at "ap"); (case evj => exact Nat.le_of_ble_eq_true rfl))
  | assumption)
local macro_rules | `(tactic| walk_at "ee") => `(tactic| (refine' ee_p ?eep; (case eep => walk_at "ep")))
local macro_rules | `(tactic| walk_at "te") => `(tactic| (refine' te_p ?tep; (case tep => walk_at "tp")))
local macro_rules | `(tactic| walk_at "tp") => `(tactic| first
  | (refine' tp_test ?tea; (case tea => walk_at "ep"))
  | (refine' tp_B ?teb; (case teb => walk_at "ep"))
  | (refine' tp_not ?tec; (case tec => walk_at "tp"))
  | (refine' tp_or ?ted ?tee; (case ted => walk_at "tp"); (case tee => intro _; walk_at "tp"))
  | (refine' tp_and ?tef ?teg; (case tef => walk_at "tp"); (case teg => intro _; walk_at "tp"))
  | assumption)
section
variable {P : Program} {w : World} {K : PySem.W.Frag} {mg : Str → Option Value} {base : Heap}

/-! ### circuits, typed -/
abbrev RegT := Str × Str
def regD (r : RegT) : Dt := .tup [.str r.1, .str r.2]
def srcOf (is : List Str) (rs : List RegT) : List Str := is ++ rs.map Prod.fst
def linesOf (is : List Str) (rs : List RegT) (gs : List Gt) : List Str := srcOf is rs ++ gs.map Gt.l
def sinkOf (os : List Str) (rs : List RegT) : List Str := os ++ rs.map Prod.snd
/-- the parts, and what is far from any limit -/
structure Cp where
  is : List Str
  rs : List RegT
  gs : List Gt
  os : List Str
def Cp.ok (c : Cp) : Prop := c.is.length ≤ 1000 ∧ c.rs.length ≤ 1000 ∧ c.gs.length ≤ 1000 ∧ c.os.length ≤ 1000 ∧ ∀ g ∈ c.gs, g.ps.length ≤ 4
def CF : List Str := ["inputs", "registers", "gates", "outputs", "gate_of", "order"]
/-- an object that has the parts c among its fields -/
structure HasP (fs : List Str) (es : List Dt) (c : Cp) : Prop where
  i : (fs.zip es).lookup ("inputs" : Str) = some (Dt.tup (c.is.map .str))
  r : (fs.zip es).lookup ("registers" : Str) = some (Dt.tup (c.rs.map regD))
  g : (fs.zip es).lookup ("gates" : Str) = some (Dt.tup (c.gs.map Gt.d))
  o : (fs.zip es).lookup ("outputs" : Str) = some (Dt.tup (c.os.map .str))
  n : fs.contains ("sources" : Str) = false ∧ fs.contains ("lines" : Str) = false ∧ fs.contains ("sinks" : Str) = false ∧ fs.contains ("above" : Str) = false ∧ fs.contains ("parts" : Str) = false
def R_Circuit_sources (K : PySem.W.Frag) (ds : List Dt) (r : Rs) : Prop := ∃ fs es c, ds = [.obj (He.ga K "Circuit") fs es] ∧ HasP fs es c ∧ c.ok ∧ r = .o (.lst ((srcOf c.is c.rs).map .str))
def R_Circuit_lines (K : PySem.W.Frag) (ds : List Dt) (r : Rs) : Prop := ∃ fs es c, ds = [.obj (He.ga K "Circuit") fs es] ∧ HasP fs es c ∧ c.ok ∧ r = .o (.lst ((linesOf c.is c.rs c.gs).map .str))
def R_Circuit_sinks (K : PySem.W.Frag) (ds : List Dt) (r : Rs) : Prop := ∃ fs es c, ds = [.obj (He.ga K "Circuit") fs es] ∧ HasP fs es c ∧ c.ok ∧ r = .o (.lst ((sinkOf c.os c.rs).map .str))
def R_Circuit_parts (K : PySem.W.Frag) (ds : List Dt) (r : Rs) : Prop := ∃ fs es c, ds = [.obj (He.ga K "Circuit") fs es] ∧ HasP fs es c ∧ c.ok ∧ r = .d (.tup [.tup (c.is.map .str), .tup (c.rs.map regD), .tup (c.gs.map Gt.d), .tup (c.os.map .str)])
theorem l_Circuit_sources (K : PySem.W.Frag) (ds : List Dt) (r : Rs) (h : R_Circuit_sources K ds r) : ds.length = 1 := by
  obtain ⟨_, _, _, rfl, _⟩ := h
  rfl
theorem l_Circuit_lines (K : PySem.W.Frag) (ds : List Dt) (r : Rs) (h : R_Circuit_lines K ds r) : ds.length = 1 := by
  obtain ⟨_, _, _, rfl, _⟩ := h
  rfl
theorem l_Circuit_sinks (K : PySem.W.Frag) (ds : List Dt) (r : Rs) (h : R_Circuit_sinks K ds r) : ds.length = 1 := by
  obtain ⟨_, _, _, rfl, _⟩ := h
  rfl
theorem l_Circuit_parts (K : PySem.W.Frag) (ds : List Dt) (r : Rs) (h : R_Circuit_parts K ds r) : ds.length = 1 := by
  obtain ⟨_, _, _, rfl, _⟩ := h
  rfl
theorem Txt.na (T : Txt K mg) {f : Str} (h : f ∈ (["inputs", "registers", "gates", "outputs", "gate_of", "order"] : List Str) := by simp) : NoAttr K (He.ga K "Circuit") f := T.a_Circuit f h
theorem ep_reg {env : En} {i : Nat} {r : RegT} (h : env[i]? = some (.d (regD r))) : Ep P w K (tOp (rIxT K) (tVar i) (tC (.int 0))) env (.str r.1) ∧ Ep P w K (tOp (rIxT K) (tVar i) (tC (.int 1))) env (.str r.2) := ⟨ep_op (ep_var h) ep_int (itm (i := 0) rfl), ep_op (ep_var h) ep_int (itm (i := 1) rfl)⟩
theorem ep_gate {env : En} {i : Nat} {g : Gt} (h : env[i]? = some (.d g.d)) : Ep P w K (tOp (rIxT K) (tVar i) (tC (.int 0))) env (.str g.l) ∧ Ep P w K (tOp (rIxT K) (tVar i) (tC (.int 1))) env (.str g.k) ∧ Ep P w K (tOp (rIxT K) (tVar i) (tC (.int 2))) env (.tup (g.ps.map .str)) := ⟨ep_op (ep_var h) ep_int (itm (i := 0) rfl), ep_op (ep_var h) ep_int (itm (i := 1) rfl), ep_op (ep_var h) ep_int (itm (i := 2) rfl)⟩
abbrev s_Circuit_sources : Stmt := meth 28 2
abbrev N_Circuit_sources : List Str := ["self", "pair"]
theorem sc_Circuit_sources : FnScope N_Circuit_sources ["self"] (defScope s_Circuit_sources) := ⟨rfl, rfl, rfl, by decide +kernel, rfl, by decide +kernel, by decide +kernel⟩
theorem k_Circuit_sources (T : Txt K mg) (D : Dm K (He.ga K "Circuit") "sources" "Circuit.sources" ["self"] s_Circuit_sources)  : Mx P w K mg base 1 (He.ga K "Circuit") "sources" ["self"] (spR P w K (R_Circuit_sources K)) := by
  refine Mx.of D sc_Circuit_sources (l_Circuit_sources K) fun f cdv A outer s H E hr => ?_
  refine ⟨_, (pss_one (ps_ret (pe_lst (StX.pa_star (pe_fld (pv 0) rfl) (StX.pa_star (pe_lc (own := [("pair", 1)]) (g := gName 1) (tt := tYes) rfl sc_Circuit_sources.nd (pi_tup (pe_fld (pv 0) rfl)) (blkOk_by (N := N_Circuit_sources) (sc := defScope s_Circuit_sources) (by decide +kernel)) (fun _ _ _ _ _ => (pgn (i := 1) sc_Circuit_sources.nd)) (fun _ _ _ _ _ => pts_nil) (fun _ _ _ _ _ => (pe_ix (show IxR _ (rIxT K) from ix_tup) (pv 1) pe_int (fun _ _ => rfl)))) pa_nil))))), ?_⟩
  rintro ds r ⟨fs, es, c, rfl, hp, ⟨o1, o2, o3, o4, o5⟩, rfl⟩
  show Se P w K _ [.d _, .u] _
  refine se_is (se_ro (en_p (np_lst (ap_starT (ep_fld T.k_Circuit T.na ep_var hp.i) (ap_starL (ep_new (np_mapT c.rs regD (ip_tup (ep_fld T.k_Circuit T.na ep_var hp.r)) (by omega) (fun r => .str r.1) fun i r _ => (ep_reg rfl).1)) ap_nil)) (by simp; omega)))) ?_
  simp [srcOf]
abbrev s_Circuit_lines : Stmt := meth 28 1
abbrev N_Circuit_lines : List Str := ["self", "gate"]
theorem sc_Circuit_lines : FnScope N_Circuit_lines ["self"] (defScope s_Circuit_lines) := ⟨rfl, rfl, rfl, by decide +kernel, rfl, by decide +kernel, by decide +kernel⟩
theorem k_Circuit_lines (T : Txt K mg) (D : Dm K (He.ga K "Circuit") "lines" "Circuit.lines" ["self"] s_Circuit_lines)  (M_Circuit_sources : Mx P w K mg base 1 (He.ga K "Circuit") "sources" ["self"] (spR P w K (R_Circuit_sources K))) : Mx P w K mg base 2 (He.ga K "Circuit") "lines" ["self"] (spR P w K (R_Circuit_lines K)) := by
  refine Mx.of D sc_Circuit_lines (l_Circuit_lines K) fun f cdv A outer s H E hr => ?_
  refine ⟨_, (pss_one (ps_ret (pe_lst (StX.pa_star (pe_mx0 M_Circuit_sources T.k_Circuit (hr.mono (by decide)) (pv 0)) (StX.pa_star (pe_lc (own := [("gate", 1)]) (g := gName 1) (tt := tYes) rfl sc_Circuit_lines.nd (pi_tup (pe_fld (pv 0) rfl)) (blkOk_by (N := N_Circuit_lines) (sc := defScope s_Circuit_lines) (by decide +kernel)) (fun _ _ _ _ _ => (pgn (i := 1) sc_Circuit_lines.nd)) (fun _ _ _ _ _ => pts_nil) (fun _ _ _ _ _ => (pe_ix (show IxR _ (rIxT K) from ix_tup) (pv 1) pe_int (fun _ _ => rfl)))) pa_nil))))), ?_⟩
  rintro ds r ⟨fs, es, c, rfl, hp, hk, rfl⟩
  have ⟨o1, o2, o3, o4, o5⟩ := hk
  show Se P w K _ [.d _, .u] _
  refine se_is (se_ro (en_p (np_lst (ap_starL (po_dt (po_meth (u := .lst ((srcOf c.is c.rs).map .str)) ep_var ap_nil ⟨fs, es, c, rfl, hp, hk, rfl⟩ hp.n.1)) (ap_starL (ep_new (np_mapT c.gs Gt.d (ip_tup (ep_fld T.k_Circuit T.na ep_var hp.g)) (by omega) (fun g => .str g.l) fun i r _ => (ep_gate rfl).1)) ap_nil)) (by simp [srcOf]; omega)))) ?_
  simp [linesOf]
abbrev s_Circuit_parts : Stmt := meth 28 5
abbrev N_Circuit_parts : List Str := ["self"]
theorem sc_Circuit_parts : FnScope N_Circuit_parts ["self"] (defScope s_Circuit_parts) := ⟨rfl, rfl, rfl, by decide +kernel, rfl, by decide +kernel, by decide +kernel⟩
theorem k_Circuit_parts (T : Txt K mg) (D : Dm K (He.ga K "Circuit") "parts" "Circuit.parts" ["self"] s_Circuit_parts)  : Mx P w K mg base 1 (He.ga K "Circuit") "parts" ["self"] (spR P w K (R_Circuit_parts K)) := by
  refine Mx.of D sc_Circuit_parts (l_Circuit_parts K) fun f cdv A outer s H E hr => ?_
  refine ⟨_, (pss_one (ps_ret (pe_tup (pa_cons (pe_fld (pv 0) rfl) (pa_cons (pe_fld (pv 0) rfl) (pa_cons (pe_fld (pv 0) rfl) (pa_cons (pe_fld (pv 0) rfl) pa_nil))))))), ?_⟩
  rintro ds r ⟨fs, es, c, rfl, hp, ⟨o1, o2, o3, o4, o5⟩, rfl⟩
  left
  show Se P w K _ [.d _] _
  exact se_ret (ee_p (ep_tup (ap_cons (ep_fld T.k_Circuit T.na ep_var hp.i) (ap_cons (ep_fld T.k_Circuit T.na ep_var hp.r) (ap_cons (ep_fld T.k_Circuit T.na ep_var hp.g) (ap_cons (ep_fld T.k_Circuit T.na ep_var hp.o) ap_nil))))))
end
end CC

set_option maxHeartbeats 400000
namespace CC
open PySem PySem.Spec PyProof.Rows L2 Qw
open Evl hiding ea_cons
open Pw (Dt Rp RpL Wk R2d R1d RLd RLn Kq KqL truD flatD fl py pyL rangeD charsD spX2 Xm Xm0 tyD isI isB isS isTp isL rl_isInt rl_isBool rl_isStr rl_isTup rl_isList rl_int rl_max2 rl_min2 rl_len rl_lenT rl_tup rl_tupT rl_lenS rl_all rl_any rn_list rn_listT r2_I0 r2_B0 r2_eqI r2_neI r2_eqS r2_neS r2_eq r2_ne r2_I r2_inS r2_niS r2_in r2_inT r2_ixL r2_ixT r2_ixS r2_addS r2_eqD r2_neD r2_ixM r1_U ixN_at itemD cr_int cr_min2 cr_max2 cr_list cr_tuple cr_len pe_globI pe_globS pe_globR pe_tyname rTupS rInt1 rMin2)
local macro_rules | `(tactic| walk_at "side") => `(tactic| first
  | decide | omega | assumption | (show (0 : Int) < _; omega) | exact (show CDiv _ _ from ⟨by omega, by omega⟩) | exact (show CMul _ _ from Or.inr ⟨by omega, by omega⟩) | exact (show CMul _ _ from Or.inl ⟨by omega, by omega⟩) | exact (show CPow _ _ from ⟨by decide, by decide, by decide⟩))
local macro_rules | `(tactic| walk_at "op") => `(tactic| first
  | exact r2_I0 | exact r2_B0 | exact r2_eqI | exact r2_neI | exact r2_eqS | exact r2_neS
  | exact r2_eq rfl rfl rfl | exact r2_ne rfl rfl rfl
  | (refine' r2_I ?_; walk_at "side") | exact r2_inS | exact r2_niS)
local macro_rules | `(tactic| walk_at "rl") => `(tactic| first
  | exact rl_int | exact rl_max2 | exact rl_min2 | exact rl_len | exact rl_lenT | exact rl_isInt (by first | rfl | assumption) | exact rl_isBool (by first | rfl | assumption) | exact rl_isStr (by first | rfl | assumption) | exact rl_isTup (by first | rfl | assumption) | exact rl_isList (by first | rfl | assumption) | exact rl_tup | exact rl_tupT | (refine' rl_lenS ?_; walk_at "side"))
local macro_rules | `(tactic| walk_at "ap") => `(tactic| first
  | exact ap_nil
  | (refine' ap_cons ?eah ?eat; (case eah => walk_at "ep"); (case eat => walk_at "ap")))
local macro_rules | `(tactic| walk_at "ep") => `(tactic| first
  | exact ep_int | exact ep_bl | exact ep_str | exact ep_non | exact ep_ty | exact ep_var
  | (refine' ep_op ?eva ?evb ?evc; (case eva => walk_at "ep"); (case evb => walk_at "ep"); (case evc => walk_at "op"))
  | (refine' ep_cb ?evd ?eve; (case evd => walk_at "ap"); (case eve => walk_at "rl"))
  | (refine' ep_un ?evf r1_U; (case evf => walk_at "ep"))
  | (refine' ep_tup ?evg ?evi; (case evg => walk_at "ap"); (case evi => exact Nat.le_of_ble_eq_true rfl))
  | (refine' ep_lst ?evh ?evj; (case evh => walk_at "ap"); (case evj => exact Nat.le_of_ble_eq_true rfl))
  | assumption)
local macro_rules | `(tactic| walk_at "ee") => `(tactic| (refine' ee_p ?eep; (case eep => walk_at "ep")))
local macro_rules | `(tactic| walk_at "te") => `(tactic| (refine' te_p ?tep; (case tep => walk_at "tp")))
local macro_rules | `(tactic| walk_at "tp") => `(tactic| first
  | (refine' tp_test ?tea; (case tea => walk_at "ep"))
  | (refine' tp_B ?teb; (case teb => walk_at "ep"))
  | (refine' tp_not ?tec; (case tec => walk_at "tp"))
  | (refine' tp_or ?ted ?tee; (case ted => walk_at "tp"); (case tee => intro _; walk_at "tp"))
  | (refine' tp_and ?tef ?teg; (case tef => walk_at "tp"); (case teg => intro _; walk_at "tp"))
  | assumption)
section
variable {P : Program} {w : World} {K : PySem.W.Frag} {mg : Str → Option Value} {base : Heap}

/-! ### Circuit.__init__ -/
def formOk (is rs gs os : List Dt) : Bool := is.all isName && (os.all isName && (rs.all isReg && gs.all isGate))
def gmap (gs : List Gt) : KD := gs.map fun g => (Sum.inr g.l, g.d)
def circE (c : Cp) (ord : List Gt) : List Dt := [.tup (c.is.map .str), .tup (c.rs.map regD), .tup (c.gs.map Gt.d), .tup (c.os.map .str), dk (gmap c.gs), .lst (ord.map Gt.d)]
def usesOf (c : Cp) : List Str := (c.gs.flatMap Gt.ps ++ c.rs.map Prod.snd) ++ c.os
def ordI (K : PySem.W.Frag) (c : Cp) : Except Str (List Str × List Gt) → Ri
  | .ok l => .f CF (circE c l.2)
  | .error x => .x (badC K "loop" x)
def sizeI (K : PySem.W.Frag) (c : Cp) : Ri := if (linesOf c.is c.rs c.gs).length ≤ 400 ∧ (srcOf c.is c.rs).length ≤ 40 then ordI K c (order (srcOf c.is c.rs) c.gs) else .x (badC K "size" "")
def orI (f : Str → Xn) (z : Ri) : Option Str → Ri
  | none => z
  | some x => .x (f x)
def initR (K : PySem.W.Frag) (c : Cp) : Ri := orI (badC K "twice") (orI (badC K "unknown") (sizeI K c) ((usesOf c).find? fun y => !decide (y ∈ linesOf c.is c.rs c.gs))) (dupOf [] (linesOf c.is c.rs c.gs))
def seqOf (a : Dt) (xs : List Dt) : Prop := a = .tup xs ∨ a = .lst xs
def R_Circuit_init (K : PySem.W.Frag) (ds : List Dt) (r : Ri) : Prop := ∃ a1 a2 a3 a4 is rs gs os, ds = [a1, a2, a3, a4] ∧ (seqOf a1 is ∧ seqOf a2 rs ∧ seqOf a3 gs ∧ seqOf a4 os) ∧ (is.length ≤ 1000 ∧ rs.length ≤ 1000 ∧ gs.length ≤ 1000 ∧ os.length ≤ 1000) ∧ (is.all okS = true ∧ rs.all okR = true ∧ gs.all okG = true ∧ os.all okS = true) ∧
  ((formOk is rs gs os = false ∧ r = .x (badC K "form" "")) ∨ (formOk is rs gs os = true ∧ ∃ c : Cp, is = c.is.map .str ∧ rs = c.rs.map regD ∧ gs = c.gs.map Gt.d ∧ os = c.os.map .str ∧ c.ok ∧ r = initR K c))
theorem l_Circuit_init (K : PySem.W.Frag) (ds : List Dt) (r : Ri) (h : R_Circuit_init K ds r) : ds.length + 1 = 5 := by
  obtain ⟨_, _, _, _, _, _, _, _, rfl, _⟩ := h
  rfl
def iOut (E : XK) (C p : Addr) : Ri → Out
  | .f fs es => .nx (.ow (some p) (.ins C fs es) :: List.replicate 9 .x)
  | .x y => .rz (fun cls d _ H => E cls d H) y (List.replicate 10 .x)
theorem does_i {E : XK} {C p : Addr} {s : TS} {env : En} {r : Ri} (h : Se P w K s env (iOut E C p r)) : DoesI P w K E C p s env r := by
  cases r with
  | f fs es => exact ⟨_, rfl, h⟩
  | x y => exact ⟨_, h⟩
theorem ep_tuple {env : En} {i : Nat} {a : Dt} {xs : List Dt} (hi : env[i]? = some (.d a)) (h : seqOf a xs) : Ep P w K (tCB (rTupS K) (tCons (tVar i) tNil)) env (.tup xs) := by
  rcases h with rfl | rfl
  · exact ep_cb (ap_cons (ep_var hi) ap_nil) rl_tupT
  · exact ep_cb (ap_cons (ep_var hi) ap_nil) rl_tup
def rsOut (E : XK) (env : En) : Rs → Out
  | .x y => .rz (fun cls d _ H => E cls d H) y (List.replicate env.length .x)
  | _ => .nx env
/-- a check called as a statement -/
theorem se_chk {E : XK} {env : En} {tA : TA} {ds : List Dt} {R : List Dt → Rs → Prop} {r : Rs} (h : EpA P w K tA env ds) (hf : R ds r) (hr : ∀ u, r ≠ .o u) : Se P w K (tDrop (tCallS (spR P w K R) (WE fun cls d _ H => E cls d H) tA)) env (rsOut E env r) := by
  cases r with
  | d d => exact se_drop (ee_p (ep_callS h hf))
  | o u => exact absurd rfl (hr u)
  | x y => exact se_lez (se_dropX (er_callS h hf)) (le_x rfl)
theorem orX_no {f : Str → Xn} {o : Option Str} (u : Ow) : orX f o ≠ .o u := by
  cases o <;> intro z <;> cases z
theorem nodup_of : ∀ (xs seen : List Str), seen.Nodup → dupOf seen xs = none → (seen ++ xs).Nodup
  | [], seen, hs, _ => by simpa using hs
  | a :: xs, seen, hs, h => by
    have hd : ¬ a ∈ seen := fun e => by simp [dupOf, e] at h
    have h' : dupOf (seen ++ [a]) xs = none := by simpa [dupOf, hd] using h
    have := nodup_of xs (seen ++ [a]) (by
      rw [List.nodup_append]
      exact ⟨hs, by simp, fun x hx y hy => by
        simp at hy
        subst hy
        exact fun e => hd (e ▸ hx)⟩) h'
    simpa [List.append_assoc] using this
theorem put_new {kvs : KD} {k : Key} {d : Dt} (h : ∀ p ∈ kvs, p.1 ≠ k) : putD kvs k d = kvs ++ [(k, d)] := by
  unfold putD
  rw [if_neg]
  intro z
  obtain ⟨p, hp, e⟩ := List.any_eq_true.mp z
  exact h p hp (of_decide_eq_true e)
theorem gmap_fold : ∀ (gs pre : List Gt), ((pre ++ gs).map Gt.l).Nodup → (gs.filter fun _ => true).foldl (fun q g => putD q (.inr g.l) g.d) (gmap pre) = gmap (pre ++ gs) := by
  intro gs
  rw [show gs.filter (fun _ => true) = gs by simp]
  induction gs with
  | nil => intro pre _; simp
  | cons g gs ih =>
    intro pre h
    rw [List.foldl_cons, put_new]
    · have e : gmap pre ++ [((Sum.inr g.l : Key), g.d)] = gmap (pre ++ [g]) := by simp [gmap]
      rw [e, ih (pre ++ [g]) (by simpa [List.append_assoc] using h)]
      simp
    · intro p hp e
      obtain ⟨g', hg', rfl⟩ := List.mem_map.mp hp
      have e' : g'.l = g.l := Sum.inr.inj e
      rw [List.map_append, List.nodup_append] at h
      exact h.2.2 g'.l (List.mem_map_of_mem hg') g.l (by simp) e'
set_option maxHeartbeats 4000000
abbrev s_Circuit_init : Stmt := meth 28 0
abbrev N_Circuit_init : List Str := ["self", "inputs", "registers", "gates", "outputs", "pins", "gate", "pin", "taken", "pair"]
theorem sc_Circuit_init : FnScope N_Circuit_init ["self", "inputs", "registers", "gates", "outputs"] (defScope s_Circuit_init) := ⟨rfl, rfl, rfl, by decide +kernel, rfl, by decide +kernel, by decide +kernel⟩
theorem k_Circuit_init (T : Txt K mg) (D : Di K mg (He.ga K "Circuit") "Circuit" "Circuit.__init__" ["self", "inputs", "registers", "gates", "outputs"] s_Circuit_init)  (G__check_form : Fx P w K mg base 4 "_check_form" ["inputs", "registers", "gates", "outputs"] (spR P w K (R_check_form K))) (G__check_driven_once : Fx P w K mg base 3 "_check_driven_once" ["lines"] (spR P w K (R_check_driven_once K))) (M_Circuit_lines : Mx P w K mg base 2 (He.ga K "Circuit") "lines" ["self"] (spR P w K (R_Circuit_lines K))) (G__check_known : Fx P w K mg base 3 "_check_known" ["lines", "names"] (spR P w K (R_check_known K))) (G__check_size : Fx P w K mg base 3 "_check_size" ["lines", "sources"] (spR P w K (R_check_size K))) (M_Circuit_sources : Mx P w K mg base 1 (He.ga K "Circuit") "sources" ["self"] (spR P w K (R_Circuit_sources K))) (G__in_order : Fx P w K mg base 3 "_in_order" ["sources", "gates"] (spR P w K (R_in_order K))) : Ix P w K mg base 5 (He.ga K "Circuit") "Circuit" ["self", "inputs", "registers", "gates", "outputs"] (spI P w K (He.ga K "Circuit") (R_Circuit_init K)) := by
  refine Ix.of D sc_Circuit_init (l_Circuit_init K) fun f cdv A outer s H E hr tk => ?_
  refine ⟨_, (pss_cons (ps_fld (pv 0) (pe_callTy cr_tuple (by rfl) T.f_tuple (by decide +kernel) (pa_cons (pv 1) pa_nil)) rfl)
      (pss_cons (ps_fld (pv 0) (pe_callTy cr_tuple (by rfl) T.f_tuple (by decide +kernel) (pa_cons (pv 2) pa_nil)) rfl)
      (pss_cons (ps_fld (pv 0) (pe_callTy cr_tuple (by rfl) T.f_tuple (by decide +kernel) (pa_cons (pv 3) pa_nil)) rfl)
      (pss_cons (ps_fld (pv 0) (pe_callTy cr_tuple (by rfl) T.f_tuple (by decide +kernel) (pa_cons (pv 4) pa_nil)) rfl)
      (pss_cons (ps_expr (pe_fxS G__check_form (hr.mono (by decide)) tk (pa_cons (pe_fld (pv 0) rfl) (pa_cons (pe_fld (pv 0) rfl) (pa_cons (pe_fld (pv 0) rfl) (pa_cons (pe_fld (pv 0) rfl) pa_nil))))))
      (pss_cons (ps_expr (pe_fxS G__check_driven_once (hr.mono (by decide)) tk (pa_cons (pe_mx0 M_Circuit_lines T.k_Circuit (hr.mono (by decide)) (pv 0)) pa_nil)))
      (pss_cons (ps_setLc2 (i := 5) (own := [("gate", 6), ("pin", 7)]) (vs1 := [7]) (g := gName 6) (g1 := gName 7) (tt := tYes) (tt1 := tYes) rfl sc_Circuit_init.nd rfl rfl (sw_true rfl rfl rfl (by decide +kernel)) (pi_tup (pe_fld (pv 0) rfl)) (blkOk_by (N := N_Circuit_init) (sc := defScope s_Circuit_init) (by decide +kernel)) (by decide) (fun _ _ _ _ _ => (pgn (i := 6) sc_Circuit_init.nd)) (fun _ _ _ _ _ => pts_nil) (fun _ _ _ _ _ => (show PI _ _ _ (iTup K _) from (pi_tup (pe_ix (show IxR _ (rIxT K) from ix_tup) (pv 6) pe_int (fun _ _ => rfl))))) (fun _ _ _ _ _ => (pgn (i := 7) sc_Circuit_init.nd)) (fun _ _ _ _ _ => pts_nil) (fun _ _ _ _ _ => (pv 7)))
      (pss_cons (ps_setLc (i := 8) (own := [("pair", 9)]) (g := gName 9) (tt := tYes) rfl sc_Circuit_init.nd rfl rfl (sw_true rfl rfl rfl (by decide +kernel)) (pi_tup (pe_fld (pv 0) rfl)) (blkOk_by (N := N_Circuit_init) (sc := defScope s_Circuit_init) (by decide +kernel)) (fun _ _ _ _ _ => (pgn (i := 9) sc_Circuit_init.nd)) (fun _ _ _ _ _ => pts_nil) (fun _ _ _ _ _ => (pe_ix (show IxR _ (rIxT K) from ix_tup) (pv 9) pe_int (fun _ _ => rfl))))
      (pss_cons (ps_expr (pe_fxS G__check_known (hr.mono (by decide)) tk (pa_cons (pe_mx0 M_Circuit_lines T.k_Circuit (hr.mono (by decide)) (pv 0)) (pa_cons (pe_lst (StX.pa_star (pv 5) (StX.pa_star (pv 8) (StX.pa_star (pe_fld (pv 0) rfl) pa_nil)))) pa_nil))))
      (pss_cons (ps_expr (pe_fxS G__check_size (hr.mono (by decide)) tk (pa_cons (pe_mx0 M_Circuit_lines T.k_Circuit (hr.mono (by decide)) (pv 0)) (pa_cons (pe_mx0 M_Circuit_sources T.k_Circuit (hr.mono (by decide)) (pv 0)) pa_nil))))
      (pss_cons (ps_fld (pv 0) (pe_dc (own := [("gate", 6)]) (g := gName 6) (tt := tYes) rfl sc_Circuit_init.nd (pi_tup (pe_fld (pv 0) rfl)) (blkOk_by (N := N_Circuit_init) (sc := defScope s_Circuit_init) (by decide +kernel)) (fun _ _ _ _ _ => (pgn (i := 6) sc_Circuit_init.nd)) (fun _ _ _ _ _ => pts_nil) (fun _ _ _ _ _ => (pe_ix (show IxR _ (rIxT K) from ix_tup) (pv 6) pe_int (fun _ _ => rfl))) (fun _ _ _ _ _ => (pv 6))) rfl)
      (pss_one (ps_fld (pv 0) (pe_fxS G__in_order (hr.mono (by decide)) tk (pa_cons (pe_mx0 M_Circuit_sources T.k_Circuit (hr.mono (by decide)) (pv 0)) (pa_cons (pe_fld (pv 0) rfl) pa_nil))) rfl))))))))))))), ?_⟩
  rintro p ds r ⟨a1, a2, a3, a4, is, rs, gs, os, rfl, ⟨s1, s2, s3, s4⟩, ⟨n1, n2, n3, n4⟩, ⟨o1, o2, o3, o4⟩, hr⟩
  refine does_i ?_
  show Se P w K _ [.ow (some p) (.ins (He.ga K "Circuit") [] []), .d a1, .d a2, .d a3, .d a4, .u, .u, .u, .u, .u] _
  refine se_seq (se_fldN T.k_Circuit T.na (ee_p (ep_tuple rfl s1))) ?_
  refine se_seq (se_fldN T.k_Circuit T.na (ee_p (ep_tuple rfl s2))) ?_
  refine se_seq (se_fldN T.k_Circuit T.na (ee_p (ep_tuple rfl s3))) ?_
  refine se_seq (se_fldN T.k_Circuit T.na (ee_p (ep_tuple rfl s4))) ?_
  show Se P w K _ [.ow (some p) (.ins (He.ga K "Circuit") ["inputs", "registers", "gates", "outputs"] [.tup is, .tup rs, .tup gs, .tup os]), .d a1, .d a2, .d a3, .d a4, .u, .u, .u, .u, .u] _
  have fi : ∀ {en : En}, en[0]? = some (.ow (some p) (.ins (He.ga K "Circuit") ["inputs", "registers", "gates", "outputs"] [.tup is, .tup rs, .tup gs, .tup os])) → Ep P w K (tFld K (tVar 0) "inputs") en (.tup is) ∧ Ep P w K (tFld K (tVar 0) "registers") en (.tup rs) ∧ Ep P w K (tFld K (tVar 0) "gates") en (.tup gs) ∧ Ep P w K (tFld K (tVar 0) "outputs") en (.tup os) := fun h => ⟨ep_fldO T.k_Circuit T.na h rfl, ep_fldO T.k_Circuit T.na h rfl, ep_fldO T.k_Circuit T.na h rfl, ep_fldO T.k_Circuit T.na h rfl⟩
  refine se_seqO (se_chk (ap_cons (fi rfl).1 (ap_cons (fi rfl).2.1 (ap_cons (fi rfl).2.2.1 (ap_cons (fi rfl).2.2.2 ap_nil)))) ⟨is, rs, gs, os, rfl, ⟨by omega, by omega, by omega, by omega⟩, ⟨o1, o2, o3, o4⟩, rfl⟩ (fun u => by split <;> intro z <;> cases z)) ?_
  rcases hr with ⟨hf, rfl⟩ | ⟨hf, c, rfl, rfl, rfl, rfl, hok, rfl⟩
  · right
    unfold formOk at hf
    rw [if_neg (by rw [hf]; exact Bool.false_ne_true)]
    exact ⟨rfl, rfl⟩
  left
  unfold formOk at hf
  rw [if_pos hf]
  refine ⟨_, rfl, ?_⟩
  have ⟨b1, b2, b3, b4, b5⟩ := hok
  have hP : HasP ["inputs", "registers", "gates", "outputs"] [.tup (c.is.map .str), .tup (c.rs.map regD), .tup (c.gs.map Gt.d), .tup (c.os.map .str)] c := ⟨rfl, rfl, rfl, rfl, by decide +kernel⟩
  have eL : ∀ {en : En}, en[0]? = some (.ow (some p) (.ins (He.ga K "Circuit") ["inputs", "registers", "gates", "outputs"] [.tup (c.is.map .str), .tup (c.rs.map regD), .tup (c.gs.map Gt.d), .tup (c.os.map .str)])) → Ep P w K (tMeth (He.ga K "Circuit") "lines" (spR P w K (R_Circuit_lines K)) [] E0 (tVar 0) tNil) en (.lst ((linesOf c.is c.rs c.gs).map .str)) := fun h => po_dt (po_methL (zs := (linesOf c.is c.rs c.gs).map .str) h ⟨_, _, c, rfl, hP, hok, rfl⟩ (flat_strsD _))
  have eS : ∀ {en : En}, en[0]? = some (.ow (some p) (.ins (He.ga K "Circuit") ["inputs", "registers", "gates", "outputs"] [.tup (c.is.map .str), .tup (c.rs.map regD), .tup (c.gs.map Gt.d), .tup (c.os.map .str)])) → Ep P w K (tMeth (He.ga K "Circuit") "sources" (spR P w K (R_Circuit_sources K)) [] E0 (tVar 0) tNil) en (.lst ((srcOf c.is c.rs).map .str)) := fun h => po_dt (po_methL (zs := (srcOf c.is c.rs).map .str) h ⟨_, _, c, rfl, hP, hok, rfl⟩ (flat_strsD _))
  have hll : (linesOf c.is c.rs c.gs).length ≤ 3000 := by simp [linesOf, srcOf]; omega
  refine se_seqO (se_chk (ap_cons (eL rfl) ap_nil) ⟨_, rfl, hll, rfl⟩ orX_no) ?_
  cases hd : dupOf [] (linesOf c.is c.rs c.gs) with
  | some x =>
    right
    refine ⟨rfl, ?_⟩
    unfold initR
    rw [hd]
    rfl
  | none =>
    left
    refine ⟨_, rfl, ?_⟩
    have htot : ((c.gs.flatMap fun g => g.ps.map Dt.str)).length ≤ 40000 := by
      have : ∀ l : List Gt, (∀ g ∈ l, g.ps.length ≤ 4) → (l.flatMap fun g => g.ps.map Dt.str).length ≤ 4 * l.length := by
        intro l
        induction l with
        | nil => intro _; simp
        | cons g l ih =>
          intro h
          have h1 := ih fun x hx => h x (by simp [hx])
          have h2 := h g (by simp)
          simp only [List.flatMap_cons, List.length_append, List.length_map, List.length_cons]
          omega
      have := this c.gs b5
      omega
    refine se_seq (se_asg (d := .lst ((c.gs.flatMap Gt.ps).map .str)) (ee_p (ep_new (by
      have h := np_lc2T (P := P) (w := w) (K := K) (te := tVar 7) (g := gName 6) (g1 := gName 7) (vs := [6, 7]) (vs1 := [7]) (wi := iTup K (tFld K (tVar 0) "gates")) (wi1 := iTup K (tOp (rIxT K) (tVar 6) (tC (.int 2)))) (env := [.ow (some p) (.ins (He.ga K "Circuit") ["inputs", "registers", "gates", "outputs"] [.tup (c.is.map .str), .tup (c.rs.map regD), .tup (c.gs.map Gt.d), .tup (c.os.map .str)]), .d a1, .d a2, .d a3, .d a4, .u, .u, .u, .u, .u]) c.gs Gt.d (ip_tup (fi rfl).2.2.1) (fun g => g.ps.map .str) htot id fun i g hg => ⟨_, fun F0 H0 F H σ v S r Q q => q _ (by simp only [L2.wipe]; apply List.ext_getElem?; intro i; simp only [List.getElem?_set, List.length_set]; by_cases e1 : 6 = i <;> by_cases e2 : 7 = i <;> simp [e1, e2]) (fun _ h => own_set h) (S.setD r), ip_tup (ep_gate rfl).2.2, fun d hd => ⟨_, gc_name, ep_var⟩⟩
      rw [List.map_id] at h
      have e : (c.gs.flatMap fun g => g.ps.map Dt.str) = (c.gs.flatMap Gt.ps).map Dt.str := by rw [List.map_flatMap]
      rw [e] at h
      exact h)))) ?_
    refine se_seq (se_asg (d := .lst (c.rs.map fun (r : RegT) => Dt.str r.2)) (ee_p (ep_new (np_mapT c.rs regD (ip_tup (fi rfl).2.1) (by omega) (fun r => .str r.2) fun i r _ => (ep_reg rfl).2)))) ?_
    show Se P w K _ [.ow (some p) (.ins (He.ga K "Circuit") ["inputs", "registers", "gates", "outputs"] [.tup (c.is.map .str), .tup (c.rs.map regD), .tup (c.gs.map Gt.d), .tup (c.os.map .str)]), .d a1, .d a2, .d a3, .d a4, .d (.lst ((c.gs.flatMap Gt.ps).map .str)), .u, .u, .d (.lst (c.rs.map fun (r : RegT) => Dt.str r.2)), .u] _
    have hu2 : (usesOf c).length ≤ 40000 := by
      have e : (c.gs.flatMap Gt.ps).length = (c.gs.flatMap fun g => g.ps.map Dt.str).length := by
        rw [show (c.gs.flatMap fun g => g.ps.map Dt.str) = (c.gs.flatMap Gt.ps).map Dt.str by rw [List.map_flatMap], List.length_map]
      have h4 : (c.gs.flatMap fun g => g.ps.map Dt.str).length ≤ 4000 := by
        have : ∀ l : List Gt, (∀ g ∈ l, g.ps.length ≤ 4) → (l.flatMap fun g => g.ps.map Dt.str).length ≤ 4 * l.length := by
          intro l
          induction l with
          | nil => intro _; simp
          | cons g l ih =>
            intro h
            have h1 := ih fun x hx => h x (by simp [hx])
            have h2 := h g (by simp)
            simp only [List.flatMap_cons, List.length_append, List.length_map, List.length_cons]
            omega
        have := this c.gs b5
        omega
      simp only [usesOf, List.length_append, List.length_map]
      omega
    refine se_seqO (se_chk (ap_cons (eL rfl) (ap_cons (d := .lst ((usesOf c).map .str)) (ep_is (ep_lst (ap_starL ep_var (ap_starL ep_var (ap_starT (fi rfl).2.2.2 ap_nil))) (by
      have := hu2
      simp only [usesOf, List.length_append, List.length_map] at this
      simp only [List.length_append, List.length_map, List.length_nil]
      omega)) (by simp [usesOf])) ap_nil)) ⟨_, _, rfl, hll, hu2, rfl⟩ orX_no) ?_
    cases hk : (usesOf c).find? fun y => !decide (y ∈ linesOf c.is c.rs c.gs) with
    | some x =>
      right
      refine ⟨rfl, ?_⟩
      unfold initR
      rw [hd, hk]
      rfl
    | none =>
      left
      refine ⟨_, rfl, ?_⟩
      refine se_seqO (se_chk (ap_cons (eL rfl) (ap_cons (eS rfl) ap_nil)) ⟨_, _, rfl, rfl⟩ (fun u => by split <;> intro z <;> cases z)) ?_
      rw [List.length_map, List.length_map]
      by_cases hz : (linesOf c.is c.rs c.gs).length ≤ 400 ∧ (srcOf c.is c.rs).length ≤ 40
      · left
        rw [if_pos hz]
        refine ⟨_, rfl, ?_⟩
        have nd := nodup_of _ [] List.nodup_nil hd
        have nd2 : (c.gs.map Gt.l).Nodup := by
          have : (linesOf c.is c.rs c.gs).Nodup := by simpa using nd
          unfold linesOf at this
          rw [List.nodup_append] at this
          exact this.2.1
        refine se_seq (se_fldN (d := dk (gmap c.gs)) T.k_Circuit T.na (ee_p (po_dt (by
          have h := po_dc (P := P) (w := w) (K := K) (tt := tYes) (ty := tOp (rIxT K) (tVar 6) (tC (.int 0))) (te := tVar 6) (g := gName 6) (wi := iTup K (tFld K (tVar 0) "gates")) (env := [.ow (some p) (.ins (He.ga K "Circuit") ["inputs", "registers", "gates", "outputs"] [.tup (c.is.map .str), .tup (c.rs.map regD), .tup (c.gs.map Gt.d), .tup (c.os.map .str)]), .d a1, .d a2, .d a3, .d a4, .d (.lst ((c.gs.flatMap Gt.ps).map .str)), .u, .u, .d (.lst (c.rs.map fun (r : RegT) => Dt.str r.2)), .u]) (vs := [6]) c.gs Gt.d (ip_tup (fi rfl).2.2.1) (by omega) (fun _ => true) (fun g => Sum.inr g.l) (fun g => g.d) fun i a h => ⟨_, gc_name, tp_yes, fun _ => ⟨(ep_gate rfl).1, ep_var⟩⟩
          rw [show (c.gs.filter fun _ => true).foldl (fun q g => putD q (Sum.inr g.l) g.d) [] = gmap c.gs from gmap_fold c.gs [] (by simpa using nd2)] at h
          exact h)))) ?_
        have hP5 : HasP ["inputs", "registers", "gates", "outputs", "gate_of"] [.tup (c.is.map .str), .tup (c.rs.map regD), .tup (c.gs.map Gt.d), .tup (c.os.map .str), dk (gmap c.gs)] c := ⟨rfl, rfl, rfl, rfl, by decide +kernel⟩
        have args : EpA P w K (tCons (tMeth (He.ga K "Circuit") "sources" (spR P w K (R_Circuit_sources K)) [] E0 (tVar 0) tNil) (tCons (tFld K (tVar 0) "gates") tNil)) [.ow (some p) (.ins (He.ga K "Circuit") ["inputs", "registers", "gates", "outputs", "gate_of"] [.tup (c.is.map .str), .tup (c.rs.map regD), .tup (c.gs.map Gt.d), .tup (c.os.map .str), dk (gmap c.gs)]), .d a1, .d a2, .d a3, .d a4, .d (.lst ((c.gs.flatMap Gt.ps).map .str)), .u, .u, .d (.lst (c.rs.map fun (r : RegT) => Dt.str r.2)), .u] [.lst ((srcOf c.is c.rs).map .str), .tup (c.gs.map Gt.d)] :=
          ap_cons (po_dt (po_methL (zs := (srcOf c.is c.rs).map .str) rfl ⟨_, _, c, rfl, hP5, hok, rfl⟩ (flat_strsD _))) (ap_cons (ep_fldO T.k_Circuit T.na rfl rfl) ap_nil)
        have hargs : R_in_order K [.lst ((srcOf c.is c.rs).map .str), .tup (c.gs.map Gt.d)] (ordR K (order (srcOf c.is c.rs) c.gs)) := ⟨_, _, rfl, ⟨by omega, by omega, fun g hg => by have := b5 g hg; omega⟩, rfl⟩
        have e : initR K c = ordI K c (order (srcOf c.is c.rs) c.gs) := by
          unfold initR
          rw [hd, hk]
          show sizeI K c = _
          unfold sizeI
          rw [if_pos hz]
        rw [e]
        cases ho : order (srcOf c.is c.rs) c.gs with
        | error x =>
          rw [ho] at hargs
          exact se_lez (se_fldX (er_callS args hargs)) (le_x rfl)
        | ok l =>
          rw [ho] at hargs
          exact se_le (se_fldN (t' := some p) (fs := ["inputs", "registers", "gates", "outputs", "gate_of"]) (ds := [.tup (c.is.map .str), .tup (c.rs.map regD), .tup (c.gs.map Gt.d), .tup (c.os.map .str), dk (gmap c.gs)]) (d := .lst (l.2.map Gt.d)) T.k_Circuit T.na (ee_p (po_dt (po_callS args hargs)))) (Le.s (Le.x (Le.x (Le.x (Le.x (Le.x (Le.x (Le.x (Le.x (Le.x Le.nil))))))))))
      · right
        rw [if_neg hz]
        refine ⟨rfl, ?_⟩
        unfold initR
        rw [hd, hk]
        show iOut E _ p (sizeI K c) = _
        unfold sizeI
        rw [if_neg hz]
        rfl
end
end CC

set_option maxHeartbeats 400000
namespace CC
open PySem PySem.Spec PyProof.Rows L2 Qw
open Evl hiding ea_cons
open Pw (Dt Rp RpL Wk R2d R1d RLd RLn Kq KqL truD flatD fl py pyL rangeD charsD spX2 Xm Xm0 tyD isI isB isS isTp isL rl_isInt rl_isBool rl_isStr rl_isTup rl_isList rl_int rl_max2 rl_min2 rl_len rl_lenT rl_tup rl_tupT rl_lenS rl_all rl_any rn_list rn_listT r2_I0 r2_B0 r2_eqI r2_neI r2_eqS r2_neS r2_eq r2_ne r2_I r2_inS r2_niS r2_in r2_inT r2_ixL r2_ixT r2_ixS r2_addS r2_eqD r2_neD r2_ixM r1_U ixN_at itemD cr_int cr_min2 cr_max2 cr_list cr_tuple cr_len pe_globI pe_globS pe_globR pe_tyname rTupS rInt1 rMin2)
local macro_rules | `(tactic| walk_at "side") => `(tactic| first
  | decide | omega | assumption | (show (0 : Int) < _; omega) | exact (show CDiv _ _ from ⟨by omega, by omega⟩) | exact (show CMul _ _ from Or.inr ⟨by omega, by omega⟩) | exact (show CMul _ _ from Or.inl ⟨by omega, by omega⟩) | exact (show CPow _ _ from ⟨by decide, by decide, by decide⟩))
local macro_rules | `(tactic| walk_at "op") => `(tactic| first
  | exact r2_I0 | exact r2_B0 | exact r2_eqI | exact r2_neI | exact r2_eqS | exact r2_neS
  | exact r2_eq rfl rfl rfl | exact r2_ne rfl rfl rfl
  | (refine' r2_I ?_; walk_at "side") | exact r2_inS | exact r2_niS)
local macro_rules | `(tactic| walk_at "rl") => `(tactic| first
  | exact rl_int | exact rl_max2 | exact rl_min2 | exact rl_len | exact rl_lenT | exact rl_isInt (by first | rfl | assumption) | exact rl_isBool (by first | rfl | assumption) | exact rl_isStr (by first | rfl | assumption) | exact rl_isTup (by first | rfl | assumption) | exact rl_isList (by first | rfl | assumption) | exact rl_tup | exact rl_tupT | (refine' rl_lenS ?_; walk_at "side"))
local macro_rules | `(tactic| walk_at "ap") => `(tactic| first
  | exact ap_nil
  | (refine' ap_cons ?eah ?eat; (case eah => walk_at "ep"); (case eat => walk_at "ap")))
local macro_rules | `(tactic| walk_at "ep") => `(tactic| first
  | exact ep_int | exact ep_bl | exact ep_str | exact ep_non | exact ep_ty | exact ep_var
  | (refine' ep_op ?eva ?evb ?evc; (case eva => walk_at "ep"); (case evb => walk_at "ep"); (case evc => walk_at "op"))
  | (refine' ep_cb ?evd ?eve; (case evd => walk_at "ap"); (case eve => walk_at "rl"))
  | (refine' ep_un ?evf r1_U; (case evf => walk_at "ep"))
  | (refine' ep_tup ?evg ?evi; (case evg => walk_at "ap"); (case evi => exact Nat.le_of_ble_eq_true rfl))
  | (refine' ep_lst ?evh ?evj; (case evh => walk_at "ap"); (case evj => exact Nat.le_of_ble_eq_true rfl))
  | assumption)
local macro_rules | `(tactic| walk_at "ee") => `(tactic| (refine' ee_p ?eep; (case eep => walk_at "ep")))
local macro_rules | `(tactic| walk_at "te") => `(tactic| (refine' te_p ?tep; (case tep => walk_at "tp")))
local macro_rules | `(tactic| walk_at "tp") => `(tactic| first
  | (refine' tp_test ?tea; (case tea => walk_at "ep"))
  | (refine' tp_B ?teb; (case teb => walk_at "ep"))
  | (refine' tp_not ?tec; (case tec => walk_at "tp"))
  | (refine' tp_or ?ted ?tee; (case ted => walk_at "tp"); (case tee => intro _; walk_at "tp"))
  | (refine' tp_and ?tef ?teg; (case tef => walk_at "tp"); (case teg => intro _; walk_at "tp"))
  | assumption)
section
variable {P : Program} {w : World} {K : PySem.W.Frag} {mg : Str → Option Value} {base : Heap}

open Mw
/-! ### the typed mirror of Circuit's making -/
theorem spI_imp {C : Addr} {R R' : List Dt → Ri → Prop} (h : ∀ ds r, R' ds r → R ds r) (vs : List V) (H : Hp) (Q : VK) (E : XK) (q : spI P w K C R' vs H Q E) : spI P w K C R vs H Q E := by
  obtain ⟨F, p, dx, vs', ds, r, e, h1, h2, h3, h4, h5, h6⟩ := q
  exact ⟨F, p, dx, vs', ds, r, e, h1, h2, h3, h4, h ds r h5, h6⟩
theorem spR_imp {R R' : List Dt → Rs → Prop} (h : ∀ ds r, R' ds r → R ds r) (vs : List V) (H : Hp) (Q : VK) (E : XK) (q : spR P w K R' vs H Q E) : spR P w K R vs H Q E := by
  obtain ⟨F, ds, r, h1, h2, h3, h4⟩ := q
  exact ⟨F, ds, r, h1, h2, h ds r h3, h4⟩
theorem fnOk_imp {k : Nat} {f : Addr} {fd : FuncData} {ps : List Str} {sp sp' : Sp} (F : FnOk P w K mg base (L2.CX P w) k f fd ps sp) (h : ∀ vs H Q E, sp' vs H Q E → sp vs H Q E) : FnOk P w K mg base (L2.CX P w) k f fd ps sp' :=
  ⟨fun vs H Q E q => F.len vs H Q E (h vs H Q E q), fun A outer s H args us vs Q E hr he hb hv q => F.run A outer s H args us vs Q E hr he hb hv (h vs H Q E q)⟩
theorem ix_imp {k : Nat} {C : Addr} {x : Str} {ps : List Str} {R R' : List Dt → Ri → Prop} (I : Ix P w K mg base k C x ps (spI P w K C R)) (h : ∀ ds r, R' ds r → R ds r) : Ix P w K mg base k C x ps (spI P w K C R') := by
  obtain ⟨f, fd, h1, h2, h3, h4⟩ := I
  exact ⟨f, fd, h1, h2, h3, fnOk_imp h4 (spI_imp h)⟩
theorem mx_imp {k : Nat} {C : Addr} {m : Str} {ps : List Str} {R R' : List Dt → Rs → Prop} (M : Mx P w K mg base k C m ps (spR P w K R)) (h : ∀ ds r, R' ds r → R ds r) : Mx P w K mg base k C m ps (spR P w K R') := by
  obtain ⟨f, fd, h1, h2, h3⟩ := M
  exact ⟨f, fd, h1, h2, fnOk_imp h3 (spR_imp h)⟩
abbrev CV := Cp × List Gt
abbrev eCircuit (K : PySem.W.Frag) : CV → Dt := fun p => .obj (He.ga K "Circuit") CF (circE p.1 p.2)
abbrev oCircuit (K : PySem.W.Frag) : CV → Ow := fun p => .ins (He.ga K "Circuit") CF (circE p.1 p.2)
def sq {α : Type} : Bool → (α → Dt) → List α → Dt
  | true, e, xs => eT e xs
  | false, e, xs => eL e xs
theorem sq_of {α : Type} {e : α → Dt} {xs : List α} : ∀ b, seqOf (sq b e xs) (xs.map e)
  | true => .inl rfl
  | false => .inr rfl
def badE (reason name : Str) : Exn := ⟨"BadCircuit", ["name", "reason"], [.str name, .str reason]⟩
def order1 (c : Cp) : R CV := match order (srcOf c.is c.rs) c.gs with
  | .ok l => .ok (c, l.2)
  | .error x => .ex (badE "loop" x)
def size1 (c : Cp) : R CV := if (linesOf c.is c.rs c.gs).length ≤ 400 ∧ (srcOf c.is c.rs).length ≤ 40 then order1 c else .ex (badE "size" "")
def known1 (c : Cp) : R CV := match (usesOf c).find? fun y => !decide (y ∈ linesOf c.is c.rs c.gs) with
  | some x => .ex (badE "unknown" x)
  | none => size1 c
def twice1 (c : Cp) : R CV := match dupOf [] (linesOf c.is c.rs c.gs) with
  | some x => .ex (badE "twice" x)
  | none => known1 c
def form1 (c : Cp) : Bool := formOk (c.is.map .str) (c.rs.map regD) (c.gs.map Gt.d) (c.os.map .str)
def small1 (c : Cp) : Bool := (c.is.map Dt.str).all okS && ((c.rs.map regD).all okR && ((c.gs.map Gt.d).all okG && (c.os.map Dt.str).all okS))
def m_Circuit_init (is : List Str) (rs : List (Str × Str)) (gs : List Gt) (os : List Str) : R CV :=
  R.need ((is.length ≤ 1000 ∧ rs.length ≤ 1000 ∧ gs.length ≤ 1000 ∧ os.length ≤ 1000) ∧ small1 ⟨is, rs, gs, os⟩ = true) (if form1 ⟨is, rs, gs, os⟩ = true then R.need (∀ g ∈ gs, g.ps.length ≤ 4) (twice1 ⟨is, rs, gs, os⟩) else .ex (badE "form" ""))
abbrev RM_Circuit_init (K : PySem.W.Frag) (b1 b2 b3 b4 : Bool) : List Dt → Ri → Prop := RI K CF (fun (a_ : List Str × List (Str × Str) × List Gt × List Str × Unit) => [sq b1 eS a_.1, sq b2 (eP2 eS eS) a_.2.1, sq b3 Gt.d a_.2.2.1, sq b4 eS a_.2.2.2.1]) (fun a_ => m_Circuit_init a_.1 a_.2.1 a_.2.2.1 a_.2.2.2.1) (fun p => circE p.1 p.2)
theorem badE_xn (a b : Str) : (badE a b).xn K = badC K a b := rfl
theorem init_got (c : Cp) (r : Ri) (h : GotI K CF (twice1 c) (fun p => circE p.1 p.2) r) : r = initR K c := by
  unfold twice1 at h
  unfold initR
  cases e : dupOf [] (linesOf c.is c.rs c.gs) with
  | some x => rw [e] at h; exact h
  | none =>
    rw [e] at h
    show r = orI _ _ _
    unfold known1 at h
    cases e2 : (usesOf c).find? fun y => !decide (y ∈ linesOf c.is c.rs c.gs) with
    | some x => rw [e2] at h; exact h
    | none =>
      rw [e2] at h
      show r = sizeI K c
      unfold sizeI
      unfold size1 at h
      split
      · rename_i hs
        rw [if_pos hs] at h
        unfold order1 at h
        cases e3 : order (srcOf c.is c.rs) c.gs with
        | ok l => rw [e3] at h; exact h
        | error x => rw [e3] at h; exact h
      · rename_i hs
        rw [if_neg hs] at h
        exact h
theorem ri_Circuit (b1 b2 b3 b4 : Bool) (ds : List Dt) (r : Ri) (h : RM_Circuit_init K b1 b2 b3 b4 ds r) : R_Circuit_init K ds r := by
  obtain ⟨⟨is, rs, gs, os, _⟩, rfl, h⟩ := h
  simp only at h
  unfold m_Circuit_init R.need at h
  split at h
  · rename_i hc
    obtain ⟨hl, hs⟩ := hc
    unfold small1 at hs
    simp only [Bool.and_eq_true] at hs
    refine ⟨_, _, _, _, is.map .str, rs.map regD, gs.map Gt.d, os.map .str, rfl, ⟨sq_of b1, sq_of b2, sq_of b3, sq_of b4⟩, ⟨by simpa using hl.1, by simpa using hl.2.1, by simpa using hl.2.2.1, by simpa using hl.2.2.2⟩, ⟨hs.1, hs.2.1, hs.2.2.1, hs.2.2.2⟩, ?_⟩
    split at h
    · rename_i hf
      split at h
      · rename_i hp
        exact .inr ⟨hf, ⟨is, rs, gs, os⟩, rfl, rfl, rfl, rfl, ⟨hl.1, hl.2.1, hl.2.2.1, hl.2.2.2, hp⟩, init_got _ r h⟩
      · exact h.elim
    · rename_i hf
      exact .inl ⟨by simpa [form1] using hf, h⟩
  · exact h.elim
end
end CC

set_option maxHeartbeats 1000000
namespace CC
open PySem PySem.Spec PyProof.Rows L2 Qw Mw RZ
open Evl hiding ea_cons
open Pw (Dt Rp RpL Wk R2d R1d RLd RLn Kq KqL spX2 Xm Xm0 cr_int cr_min2 cr_max2 cr_list cr_tuple rTupS cr_len pe_globI pe_globS pe_globR pe_tyname)
section
variable {P : Program} {w : World} {K : PySem.W.Frag} {mg : Str → Option Value} {base : Heap}

open Mw
def b_is_integer (value_0 : Dt) (least_0 : Int) (greatest_0 : Int) : R (Ctl Unit Unit Bool) := (R.bind (R.bind (R.bind (R.need (Pw.tyD value_0).isSome (R.ok (Pw.isI value_0 || Pw.isB value_0))) fun t_1 => R.ok (!t_1)) fun t_2 => if t_2 = true then R.ok true else (R.need (Pw.tyD value_0).isSome (R.ok (Pw.isB value_0)))) fun c_3 => if c_3 = true then (R.bind (R.ok false) fun t_4 => R.ok (Ctl.rt t_4)) else (R.bind (R.ofO (asI value_0)) fun value_5 => (R.bind (R.ok ((decide (least_0 ≤ value_5)) && (decide (value_5 ≤ greatest_0)))) fun t_6 => R.ok (Ctl.rt t_6))))
def m_is_integer (value_0 : Dt) (least_0 : Int) (greatest_0 : Int) : R Bool := (b_is_integer value_0 least_0 greatest_0).fin
abbrev R_is_integer (K : PySem.W.Frag) : List Dt → Rs → Prop := RF K (fun (a_ : Dt × Int × Int × Unit) => [eD a_.1, eI a_.2.1, eI a_.2.2.1]) (fun a_ => m_is_integer a_.1 a_.2.1 a_.2.2.1) (fun (b_ : Bool) => .d (eB b_))
theorem l_is_integer (K : PySem.W.Frag) (ds : List Dt) (r : Rs) (h : R_is_integer K ds r) : ds.length = 3 := by
  obtain ⟨_, rfl, _⟩ := h
  rfl
abbrev s_is_integer : Stmt := top 13
abbrev N_is_integer : List Str := ["value", "least", "greatest"]
theorem sc_is_integer : FnScope N_is_integer ["value", "least", "greatest"] (defScope s_is_integer) := ⟨rfl, rfl, rfl, by decide +kernel, rfl, by decide +kernel, by decide +kernel⟩
theorem k_is_integer (T : Txt K mg) (D : Dx K mg "is_integer" ["value", "least", "greatest"] s_is_integer)  : Fx P w K mg base 1 "is_integer" ["value", "least", "greatest"] (spR P w K (R_is_integer K)) := by
  refine Fx.of D sc_is_integer (l_is_integer K) fun f cdv A outer s H E hr => ?_
  refine ⟨_, (pss_cons (ps_if (PW.pt (pw_or (pt_not (pt_val (pe_callB call_isi (by rfl) T.f_isinstance (by decide +kernel) (pa_cons (pv 0) (pa_cons (pe_tyname (n := "int") T.f_int) pa_nil))))) (pw_or1 (pt_val (pe_callB call_isi (by rfl) T.f_isinstance (by decide +kernel) (pa_cons (pv 0) (pa_cons (pe_tyname (n := "bool") T.f_bool) pa_nil))))))) (pss_one (ps_ret pe_bl)) pss_nil)
      (pss_one (ps_ret (pe_chain op_le op_le (pv 1) (pv 0) (pv 2))))), ?_⟩
  rintro ds r ⟨⟨value_0, least_0, greatest_0, _⟩, rfl, hr⟩
  exact does_d (eX := [.x, .x, .x]) (d := eB) (eL := fun (_ : Unit) => []) (eN := fun (_ : Unit) => []) (show Sx P w K _ _ _ _ _ [.d (eD value_0), .d (eI least_0), .d (eI greatest_0)] (b_is_integer value_0 least_0 greatest_0) _ from (sx_if (xt_or (xt_not (xt_B (xp_isInt ep_var))) (xt_B (xp_isBool ep_var))) (sx_ret (xp_v ep_bl) (fun _ => rfl)) (sx_skip (sx_last (sx_cast (i := 0) as_int rfl (fun value_5 => (show Sx P w K _ _ _ _ _ [.d (eI value_5), .d (eI least_0), .d (eI greatest_0)] (R.bind (R.ok ((decide (least_0 ≤ value_5)) && (decide (value_5 ≤ greatest_0)))) fun t_6 => R.ok (Ctl.rt t_6)) _ from (sx_ret (xp_v (ep_chain ep_var ep_var Pw.r2_B0 (fun _ => ep_var) (fun _ => Pw.r2_B0))) (fun _ => rfl))))))))) hr
def b_is_bit (value_0 : Dt) : R (Ctl Unit Unit Bool) := (R.bind (R.bind (R.ok (value_0, ((0 : Int), ((1 : Int), ())))) fun t_1 => (m_is_integer t_1.1 t_1.2.1 t_1.2.2.1).nox) fun t_2 => R.ok (Ctl.rt t_2))
def m_is_bit (value_0 : Dt) : R Bool := (b_is_bit value_0).fin
abbrev R_is_bit (K : PySem.W.Frag) : List Dt → Rs → Prop := RF K (fun (a_ : Dt × Unit) => [eD a_.1]) (fun a_ => m_is_bit a_.1) (fun (b_ : Bool) => .d (eB b_))
theorem l_is_bit (K : PySem.W.Frag) (ds : List Dt) (r : Rs) (h : R_is_bit K ds r) : ds.length = 1 := by
  obtain ⟨_, rfl, _⟩ := h
  rfl
abbrev s_is_bit : Stmt := top 14
abbrev N_is_bit : List Str := ["value"]
theorem sc_is_bit : FnScope N_is_bit ["value"] (defScope s_is_bit) := ⟨rfl, rfl, rfl, by decide +kernel, rfl, by decide +kernel, by decide +kernel⟩
theorem k_is_bit (T : Txt K mg) (D : Dx K mg "is_bit" ["value"] s_is_bit)  (G_is_integer : Fx P w K mg base 1 "is_integer" ["value", "least", "greatest"] (spR P w K (R_is_integer K))) : Fx P w K mg base 2 "is_bit" ["value"] (spR P w K (R_is_bit K)) := by
  refine Fx.of D sc_is_bit (l_is_bit K) fun f cdv A outer s H E hr => ?_
  refine ⟨_, (pss_one (ps_ret (pe_fx G_is_integer (hr.mono (by decide)) (pa_cons (pv 0) (pa_cons pe_int (pa_cons pe_int pa_nil)))))), ?_⟩
  rintro ds r ⟨⟨value_0, _⟩, rfl, hr⟩
  exact does_d (eX := [.x]) (d := eB) (eL := fun (_ : Unit) => []) (eN := fun (_ : Unit) => []) (show Sx P w K _ _ _ _ _ [.d (eD value_0)] (b_is_bit value_0) _ from (sx_last (sx_ret (xp_call (xa_v (ds := (fun (a_ : Dt × Int × Int × Unit) => [eD a_.1, eI a_.2.1, eI a_.2.2.1])) (v := (value_0, ((0 : Int), ((1 : Int), ())))) (ap_cons ep_var (ap_cons ep_int (ap_cons ep_int ap_nil)))) (fun _ => rfl)) (fun _ => rfl)))) hr
def b_are_bits (value_0 : Dt) (count_0 : Int) : R (Ctl Unit Unit Bool) := (R.bind (R.bind (R.bind (R.need (Pw.tyD value_0).isSome (R.ok (Pw.isTp value_0))) fun t_1 => R.ok (!t_1)) fun t_3 => if t_3 = true then R.ok true else (R.bind (lenDR value_0) fun t_2 => (R.ok (!(decide (t_2 = count_0)))))) fun c_4 => if c_4 = true then (R.bind (R.ok false) fun t_5 => R.ok (Ctl.rt t_5)) else (R.bind (R.ofO ((asT some) value_0)) fun value_6 => (R.bind (R.bind (R.bind (R.ok value_6) fun l_9 => (R.lcR l_9 (fun item_7 => (R.ok true)) (fun item_7 => (R.bind (R.ok (item_7, ())) fun t_8 => (m_is_bit t_8.1).nox))).nox) fun t_10 => R.ok (t_10.all id)) fun t_11 => R.ok (Ctl.rt t_11))))
def m_are_bits (value_0 : Dt) (count_0 : Int) : R Bool := (b_are_bits value_0 count_0).fin
abbrev R_are_bits (K : PySem.W.Frag) : List Dt → Rs → Prop := RF K (fun (a_ : Dt × Int × Unit) => [eD a_.1, eI a_.2.1]) (fun a_ => m_are_bits a_.1 a_.2.1) (fun (b_ : Bool) => .d (eB b_))
theorem l_are_bits (K : PySem.W.Frag) (ds : List Dt) (r : Rs) (h : R_are_bits K ds r) : ds.length = 2 := by
  obtain ⟨_, rfl, _⟩ := h
  rfl
abbrev s_are_bits : Stmt := top 15
abbrev N_are_bits : List Str := ["value", "count", "item"]
theorem sc_are_bits : FnScope N_are_bits ["value", "count"] (defScope s_are_bits) := ⟨rfl, rfl, rfl, by decide +kernel, rfl, by decide +kernel, by decide +kernel⟩
theorem k_are_bits (T : Txt K mg) (D : Dx K mg "are_bits" ["value", "count"] s_are_bits)  (G_is_bit : Fx P w K mg base 2 "is_bit" ["value"] (spR P w K (R_is_bit K))) : Fx P w K mg base 3 "are_bits" ["value", "count"] (spR P w K (R_are_bits K)) := by
  refine Fx.of D sc_are_bits (l_are_bits K) fun f cdv A outer s H E hr => ?_
  refine ⟨_, (pss_cons (ps_if (PW.pt (pw_or (pt_not (pt_val (pe_callB call_isi (by rfl) T.f_isinstance (by decide +kernel) (pa_cons (pv 0) (pa_cons (pe_tyname (n := "tuple") T.f_tuple) pa_nil))))) (pw_or1 (pt_cmpR op_ne (pe_callB cr_len (by rfl) T.f_len PySem.boot_len (pa_cons (pv 0) pa_nil)) (pv 1) (nomark _))))) (pss_one (ps_ret pe_bl)) pss_nil)
      (pss_one (ps_ret (pe_callB (cr_all rfl) (by rfl) T.f_all (by decide +kernel) (pa_cons (pe_lc (own := [("item", 2)]) (g := gName 2) (tt := tYes) rfl sc_are_bits.nd (pi_tup (pv 0)) (blkOk_by (N := N_are_bits) (sc := defScope s_are_bits) (by decide +kernel)) (fun _ _ _ _ _ => (pgn (i := 2) sc_are_bits.nd)) (fun _ _ _ _ _ => pts_nil) (fun _ _ _ _ _ => (pe_fx G_is_bit (hr.mono (by decide)) (pa_cons (pv 2) pa_nil)))) pa_nil))))), ?_⟩
  rintro ds r ⟨⟨value_0, count_0, _⟩, rfl, hr⟩
  exact does_d (eX := [.x, .x, .x]) (d := eB) (eL := fun (_ : Unit) => []) (eN := fun (_ : Unit) => []) (show Sx P w K _ _ _ _ _ [.d (eD value_0), .d (eI count_0), .u] (b_are_bits value_0 count_0) _ from (sx_if (xt_or (xt_not (xt_B (xp_isTup ep_var))) (xt_test (xp_opMV (xp_lenD ep_var) ep_var (fun _ => (rm_v Pw.r2_neI))))) (sx_ret (xp_v ep_bl) (fun _ => rfl)) (sx_skip (sx_last (sx_cast (i := 0) (as_tup as_any) rfl (fun value_6 => (show Sx P w K _ _ _ _ _ [.d ((eT eD) value_6), .d (eI count_0), .u] (R.bind (R.bind (R.bind (R.ok value_6) fun l_9 => (R.lcR l_9 (fun item_7 => (R.ok true)) (fun item_7 => (R.bind (R.ok (item_7, ())) fun t_8 => (m_is_bit t_8.1).nox))).nox) fun t_10 => R.ok (t_10.all id)) fun t_11 => R.ok (Ctl.rt t_11)) _ from (sx_ret (xp_b1 (xp_o (xo_lc (xi_tup (xp_v ep_var)) (fun item_7 => ⟨_, gc_name, (xt_v tp_yes), (xp_call (xa_v (ds := (fun (a_ : Dt × Unit) => [eD a_.1])) (v := (item_7, ())) (ap_cons ep_var ap_nil)) (fun _ => rfl))⟩)) (fun _ => rfl)) (fun _ => rl_allm)) (fun _ => rfl))))))))) hr
def b_chains (circuit_0 : CV) (count_0 : Dt) : R (Ctl Unit Unit (List (List Int))) := (R.bind (R.ok (circuit_0.1.rs.length : Int)) fun size_1 => (R.bind (R.bind (R.bind (R.ok (count_0, ((1 : Int), ((if size_1 > (1 : Int) then size_1 else (1 : Int)), ())))) fun t_2 => (m_is_integer t_2.1 t_2.2.1 t_2.2.2.1).nox) fun t_3 => R.ok (!t_3)) fun c_4 => if c_4 = true then (R.ex ⟨"BadTester", [], []⟩) else (R.bind (R.ofO (asI count_0)) fun count_5 => (R.bind (R.ok ([] : (List (List Int)))) fun found_7 => (R.bind (R.ok (0 : Int)) fun start_8 => (R.bind (R.bind (R.ok (count_5, ())) fun t_9 => R.need (-100000 ≤ t_9.1 ∧ t_9.1 ≤ 100000) (R.ok (rangeI 0 (t_9.1).toNat))) fun l_21 => R.bindC (R.forR l_21 (found_7, start_8) (fun (v_10 : (List (List Int)) × Int) place_11 => (R.bind (R.bind (R.bind (divR size_1 count_5) fun t_12 => (R.ok (v_10.2 + t_12))) fun t_15 => R.bind (R.bind (R.bind (modR size_1 count_5) fun t_13 => (R.ok (decide (place_11 < t_13)))) fun t_14 => if t_14 = true then (R.ok (1 : Int)) else (R.ok (0 : Int))) fun t_16 => (R.ok (t_15 + t_16))) fun end_17 => (R.bind (tupRg v_10.2 end_17) fun t_18 => R.need ((List.map (eT eI) v_10.1).length < 100000) (R.bind (R.ok end_17) fun start_19 => (R.ok (Ctl.nx ((v_10.1 ++ [t_18]), start_19)))))))) (fun (w_20 : (List (List Int)) × Int) => (R.ok (Ctl.rt w_20.1)))))))))
def m_chains (circuit_0 : CV) (count_0 : Dt) : R (List (List Int)) := (b_chains circuit_0 count_0).fin
abbrev R_chains (K : PySem.W.Frag) : List Dt → Rs → Prop := RF K (fun (a_ : CV × Dt × Unit) => [(eCircuit K) a_.1, eD a_.2.1]) (fun a_ => m_chains a_.1 a_.2.1) (fun (b_ : (List (List Int))) => .o ((oL (eT eI)) b_))
theorem l_chains (K : PySem.W.Frag) (ds : List Dt) (r : Rs) (h : R_chains K ds r) : ds.length = 2 := by
  obtain ⟨_, rfl, _⟩ := h
  rfl
abbrev s_chains : Stmt := top 30
abbrev N_chains : List Str := ["circuit", "count", "size", "found", "start", "place", "end"]
theorem sc_chains : FnScope N_chains ["circuit", "count"] (defScope s_chains) := ⟨rfl, rfl, rfl, by decide +kernel, rfl, by decide +kernel, by decide +kernel⟩
theorem k_chains (T : Txt K mg) (D : Dx K mg "chains" ["circuit", "count"] s_chains)  (G_is_integer : Fx P w K mg base 1 "is_integer" ["value", "least", "greatest"] (spR P w K (R_is_integer K))) (X_BadTester : Xm1 K mg "BadTester" (He.ga K "BadTester")) : Fx P w K mg base 2 "chains" ["circuit", "count"] (spR P w K (R_chains K)) := by
  refine Fx.ofX D sc_chains (l_chains K) fun f cdv A outer s H E hr tk => ?_
  refine ⟨_, (pss_cons (pset (i := 2) sc_chains.nd (pe_callB cr_len (by rfl) T.f_len PySem.boot_len (pa_cons (pe_fld (pv 0) rfl) pa_nil)))
      (pss_cons (ps_if (pt_not (pt_val (pe_fx G_is_integer (hr.mono (by decide)) (pa_cons (pv 1) (pa_cons pe_int (pa_cons (pe_callB (cr_max2 rfl) (by rfl) T.f_max (by decide +kernel) (pa_cons pe_int (pa_cons (pv 2) pa_nil))) pa_nil)))))) (pss_one (ps_raise rfl tk (pm_1 X_BadTester))) pss_nil)
      (pss_cons (pset (i := 3) sc_chains.nd (pe_lst pa_nil))
      (pss_cons (pset (i := 4) sc_chains.nd pe_int)
      (pss_cons (ps_for (passes_of rfl) rfl (pi_range1 rfl T.f_range (pa_cons (pv 1) pa_nil)) (pgn (i := 5) sc_chains.nd)
      (pss_cons (pset (i := 6) sc_chains.nd (pe_op op_add (pe_op op_add (pv 4) (pe_op op_fdiv (pv 2) (pv 1))) (pe_ifExp (pt_cmpR op_lt (pv 5) (pe_op op_mod (pv 2) (pv 1)) (nomark _)) pe_int pe_int)))
      (pss_cons (ps_expr (pe_bm PySem.F.plainAttrs_list PySem.F.slot_list_append PySem.F.type_list_append mt_append (pv 3) (pa_cons (pe_tupRg rfl (by rfl) T.f_tuple (prg_2 (by rfl) T.f_range (pv 4) (pv 6))) pa_nil)))
      (pss_one (pset (i := 4) sc_chains.nd (pv 6))))))
      (pss_one (ps_ret (pv 3)))))))), ?_⟩
  rintro ds r ⟨⟨circuit_0, count_0, _⟩, rfl, hr⟩
  exact does_o (eX := [.x, .x, .x, .x, .x, .x, .x]) (u := (oL (eT eI))) (eL := fun (_ : Unit) => []) (eN := fun (_ : Unit) => []) (show Sx P w K _ _ _ _ _ [.d ((eCircuit K) circuit_0), .d (eD count_0), .u, .u, .u, .u, .u] (b_chains circuit_0 count_0) _ from (sx_asg (xp_v (ep_cb (ap_cons (ep_fld T.k_Circuit (T.a_Circuit "registers" (by decide)) ep_var rfl) ap_nil) rl_lenTm)) (fun size_1 => (show Sx P w K _ _ _ _ _ [.d ((eCircuit K) circuit_0), .d (eD count_0), .d (eI size_1), .u, .u, .u, .u] _ _ from (sx_if (xt_not (xt_B (xp_call (xa_v (ds := (fun (a_ : Dt × Int × Int × Unit) => [eD a_.1, eI a_.2.1, eI a_.2.2.1])) (v := (count_0, ((1 : Int), ((if size_1 > (1 : Int) then size_1 else (1 : Int)), ())))) (ap_cons ep_var (ap_cons ep_int (ap_cons (ep_cb (ap_cons ep_int (ap_cons ep_var ap_nil)) Pw.rl_max2) ap_nil)))) (fun _ => rfl)))) (sx_raise0 (Le.x (Le.x (Le.x (Le.x (Le.x (Le.x (Le.x Le.nil)))))))) (sx_skip (sx_cast (i := 1) as_int rfl (fun count_5 => (show Sx P w K _ _ _ _ _ [.d ((eCircuit K) circuit_0), .d (eI count_5), .d (eI size_1), .u, .u, .u, .u] (R.bind (R.ok ([] : (List (List Int)))) fun found_7 => (R.bind (R.ok (0 : Int)) fun start_8 => (R.bind (R.bind (R.ok (count_5, ())) fun t_9 => R.need (-100000 ≤ t_9.1 ∧ t_9.1 ≤ 100000) (R.ok (rangeI 0 (t_9.1).toNat))) fun l_21 => R.bindC (R.forR l_21 (found_7, start_8) (fun (v_10 : (List (List Int)) × Int) place_11 => (R.bind (R.bind (R.bind (divR size_1 count_5) fun t_12 => (R.ok (v_10.2 + t_12))) fun t_15 => R.bind (R.bind (R.bind (modR size_1 count_5) fun t_13 => (R.ok (decide (place_11 < t_13)))) fun t_14 => if t_14 = true then (R.ok (1 : Int)) else (R.ok (0 : Int))) fun t_16 => (R.ok (t_15 + t_16))) fun end_17 => (R.bind (tupRg v_10.2 end_17) fun t_18 => R.need ((List.map (eT eI) v_10.1).length < 100000) (R.bind (R.ok end_17) fun start_19 => (R.ok (Ctl.nx ((v_10.1 ++ [t_18]), start_19)))))))) (fun (w_20 : (List (List Int)) × Int) => (R.ok (Ctl.rt w_20.1)))))) _ from (sx_own (xo_v (po_n (np_lst ap_nil))) (fun found_7 => (show Sx P w K _ _ _ _ _ [.d ((eCircuit K) circuit_0), .d (eI count_5), .d (eI size_1), .ow none ((oL (eT eI)) found_7), .u, .u, .u] _ _ from (sx_asg (xp_v ep_int) (fun start_8 => (show Sx P w K _ _ _ _ _ [.d ((eCircuit K) circuit_0), .d (eI count_5), .d (eI size_1), .ow none ((oL (eT eI)) found_7), .d (eI start_8), .u, .u] _ _ from (sx_for (eS := (fun (v_10 : (List (List Int)) × Int) => [.d ((eCircuit K) circuit_0), .d (eI count_5), .d (eI size_1), .ow none ((oL (eT eI)) v_10.1), .d (eI v_10.2), .x, .x])) (v0 := (found_7, start_8)) outO_ok (xi_rng1 (n := fun (a_ : Int × Unit) => a_.1) (xa_v (ds := (fun (a_ : Int × Unit) => [eI a_.1])) (v := (count_5, ())) (ap_cons ep_var ap_nil))) (Le.s (Le.s (Le.s (Le.s (Le.s (Le.x (Le.x Le.nil))))))) (fun v_10 place_11 => ⟨_, ge_name, (show Sx P w K _ _ _ _ _ [.d ((eCircuit K) circuit_0), .d (eI count_5), .d (eI size_1), .ow none ((oL (eT eI)) v_10.1), .d (eI v_10.2), .d (eI place_11), .x] _ _ from (sx_asg (xp_opMM (xp_opVM ep_var (xp_opVV ep_var ep_var rm_div) (fun _ => (rm_v Pw.r2_I0))) (xp_if (xt_test (xp_opVM ep_var (xp_opVV ep_var ep_var rm_mod) (fun _ => (rm_v Pw.r2_B0)))) (xp_v ep_int) (xp_v ep_int)) (fun _ _ => (rm_v Pw.r2_I0))) (fun end_17 => (show Sx P w K _ _ _ _ _ [.d ((eCircuit K) circuit_0), .d (eI count_5), .d (eI size_1), .ow none ((oL (eT eI)) v_10.1), .d (eI v_10.2), .d (eI place_11), .d (eI end_17)] _ _ from (sx_app (i := 3) (xs := List.map (eT eI) v_10.1) rfl (xp_tupRg ep_var ep_var) (fun t_18 => (sx_app1 3 (show Sx P w K _ _ _ _ _ [.d ((eCircuit K) circuit_0), .d (eI count_5), .d (eI size_1), .ow none ((oL (eT eI)) (v_10.1 ++ [t_18])), .d (eI v_10.2), .d (eI place_11), .d (eI end_17)] _ _ from (sx_last (sx_asg (xp_v ep_var) (fun start_19 => (show Sx P w K _ _ _ _ _ [.d ((eCircuit K) circuit_0), .d (eI count_5), .d (eI size_1), .ow none ((oL (eT eI)) (v_10.1 ++ [t_18])), .d (eI start_19), .d (eI place_11), .d (eI end_17)] _ _ from (sx_end (Le.s (Le.s (Le.s (Le.s (Le.s (Le.x (Le.x Le.nil))))))))))))))))))))⟩) (fun w_20 => (show Sx P w K _ _ _ _ _ [.d ((eCircuit K) circuit_0), .d (eI count_5), .d (eI size_1), .ow none ((oL (eT eI)) w_20.1), .d (eI w_20.2), .x, .x] _ _ from (sx_last (sx_retV (i := 3) rfl rfl)))))))))))))))))))) hr
def b_check_bits (bits_0 : Dt) (count_0 : Int) : R (Ctl Unit Unit Unit) := (R.bind (R.bind (R.bind (R.ok (bits_0, (count_0, ()))) fun t_1 => (m_are_bits t_1.1 t_1.2.1).nox) fun t_2 => R.ok (!t_2)) fun c_3 => if c_3 = true then (R.ex ⟨"BadTester", [], []⟩) else (R.ok (Ctl.nx ())))
def m_check_bits (bits_0 : Dt) (count_0 : Int) : R Unit := (b_check_bits bits_0 count_0).finU
abbrev R_check_bits (K : PySem.W.Frag) : List Dt → Rs → Prop := RF K (fun (a_ : Dt × Int × Unit) => [eD a_.1, eI a_.2.1]) (fun a_ => m_check_bits a_.1 a_.2.1) (fun (b_ : Unit) => .d (eU b_))
theorem l_check_bits (K : PySem.W.Frag) (ds : List Dt) (r : Rs) (h : R_check_bits K ds r) : ds.length = 2 := by
  obtain ⟨_, rfl, _⟩ := h
  rfl
abbrev s_check_bits : Stmt := top 31
abbrev N_check_bits : List Str := ["bits", "count"]
theorem sc_check_bits : FnScope N_check_bits ["bits", "count"] (defScope s_check_bits) := ⟨rfl, rfl, rfl, by decide +kernel, rfl, by decide +kernel, by decide +kernel⟩
theorem k_check_bits (T : Txt K mg) (D : Dx K mg "_check_bits" ["bits", "count"] s_check_bits)  (G_are_bits : Fx P w K mg base 3 "are_bits" ["value", "count"] (spR P w K (R_are_bits K))) (X_BadTester : Xm1 K mg "BadTester" (He.ga K "BadTester")) : Fx P w K mg base 4 "_check_bits" ["bits", "count"] (spR P w K (R_check_bits K)) := by
  refine Fx.ofX D sc_check_bits (l_check_bits K) fun f cdv A outer s H E hr tk => ?_
  refine ⟨_, (pss_one (ps_if (pt_not (pt_val (pe_fx G_are_bits (hr.mono (by decide)) (pa_cons (pv 0) (pa_cons (pv 1) pa_nil))))) (pss_one (ps_raise rfl tk (pm_1 X_BadTester))) pss_nil)), ?_⟩
  rintro ds r ⟨⟨bits_0, count_0, _⟩, rfl, hr⟩
  exact does_u (eX := [.x, .x]) (eL := fun (_ : Unit) => []) (eN := fun (_ : Unit) => [.x, .x]) (show Sx P w K _ _ _ _ _ [.d (eD bits_0), .d (eI count_0)] (b_check_bits bits_0 count_0) _ from (sx_last (sx_if (xt_not (xt_B (xp_call (xa_v (ds := (fun (a_ : Dt × Int × Unit) => [eD a_.1, eI a_.2.1])) (v := (bits_0, (count_0, ()))) (ap_cons ep_var (ap_cons ep_var ap_nil))) (fun _ => rfl)))) (sx_raise0 (Le.x (Le.x Le.nil))) (sx_skip (sx_end (eN := fun _ => [.x, .x]) (Le.x (Le.x Le.nil))))))) hr
def b_check_log (circuit_0 : CV) (count_0 : Int) (longest_0 : Int) (log_0 : (List Dt)) : R (Ctl Unit Unit Int) := (R.bind (divmodR ((log_0.length : Int) - longest_0) (longest_0 + (1 : Int))) fun p_1 => (R.bind (R.ok ((decide ((1000 : Int) < p_1.1)) || (decide ((0 : Int) < p_1.2)))) fun c_2 => if c_2 = true then (R.ex ⟨"BadTester", [], []⟩) else (R.bind (R.bind (R.ok log_0) fun t_3 => R.ok (enumI t_3)) fun l_11 => R.bindC (R.forR l_11 () (fun (v_4 : Unit) place_5 => (R.bind (R.bind (modR (place_5.1 - longest_0) (longest_0 + (1 : Int))) fun t_6 => (R.ok (decide (t_6 = (0 : Int))))) fun is_clock_7 => (R.bind (R.bind (R.ok (place_5.2, ((if is_clock_7 = true then (circuit_0.1.os.length : Int) else count_0), ()))) fun t_8 => m_check_bits t_8.1 t_8.2.1) fun _ => (R.ok (Ctl.nx ())))))) (fun (w_9 : Unit) => (R.bind (R.ok p_1.1) fun t_10 => R.ok (Ctl.rt t_10))))))
def m_check_log (circuit_0 : CV) (count_0 : Int) (longest_0 : Int) (log_0 : (List Dt)) : R Int := (b_check_log circuit_0 count_0 longest_0 log_0).fin
abbrev R_check_log (K : PySem.W.Frag) : List Dt → Rs → Prop := RF K (fun (a_ : CV × Int × Int × (List Dt) × Unit) => [(eCircuit K) a_.1, eI a_.2.1, eI a_.2.2.1, (eL eD) a_.2.2.2.1]) (fun a_ => m_check_log a_.1 a_.2.1 a_.2.2.1 a_.2.2.2.1) (fun (b_ : Int) => .d (eI b_))
theorem l_check_log (K : PySem.W.Frag) (ds : List Dt) (r : Rs) (h : R_check_log K ds r) : ds.length = 4 := by
  obtain ⟨_, rfl, _⟩ := h
  rfl
abbrev s_check_log : Stmt := top 32
abbrev N_check_log : List Str := ["circuit", "count", "longest", "log", "many", "rest", "place", "entry", "is_clock"]
theorem sc_check_log : FnScope N_check_log ["circuit", "count", "longest", "log"] (defScope s_check_log) := ⟨rfl, rfl, rfl, by decide +kernel, rfl, by decide +kernel, by decide +kernel⟩
theorem k_check_log (T : Txt K mg) (D : Dx K mg "_check_log" ["circuit", "count", "longest", "log"] s_check_log)  (G__check_bits : Fx P w K mg base 4 "_check_bits" ["bits", "count"] (spR P w K (R_check_bits K))) (X_BadTester : Xm1 K mg "BadTester" (He.ga K "BadTester")) : Fx P w K mg base 5 "_check_log" ["circuit", "count", "longest", "log"] (spR P w K (R_check_log K)) := by
  refine Fx.ofX D sc_check_log (l_check_log K) fun f cdv A outer s H E hr tk => ?_
  refine ⟨_, (pss_cons (ps_asg (pe_callB call_divmod (by rfl) T.f_divmod (by decide +kernel) (pa_cons (pe_op op_sub (pe_callB cr_len (by rfl) T.f_len PySem.boot_len (pa_cons (pv 3) pa_nil)) (pv 2)) (pa_cons (pe_op op_add (pv 2) pe_int) pa_nil))) (pg_tup rfl (pgs_cons (pgn (i := 4) sc_check_log.nd) (pgs_cons (pgn (i := 5) sc_check_log.nd) pgs_nil))))
      (pss_cons (ps_if (PW.pt (pw_or (pt_cmpR op_gt (pv 4) (pe_globI T.g_MOST_PATTERNS) (nomark _)) (pw_or1 (pt_cmpR op_gt (pv 5) pe_int (nomark _))))) (pss_one (ps_raise rfl tk (pm_1 X_BadTester))) pss_nil)
      (pss_cons (ps_for (passes_of rfl) rfl (pi_enum (by rfl) T.f_enumerate (pa_cons (pv 3) pa_nil)) (pg_tup rfl (pgs_cons (pgn (i := 6) sc_check_log.nd) (pgs_cons (pgn (i := 7) sc_check_log.nd) pgs_nil)))
      (pss_cons (pset (i := 8) sc_check_log.nd (pe_cmpR op_eq (pe_op op_mod (pe_op op_sub (pv 6) (pv 2)) (pe_op op_add (pv 2) pe_int)) pe_int (nomark _)))
      (pss_one (ps_expr (pe_fxS G__check_bits (hr.mono (by decide)) tk (pa_cons (pv 7) (pa_cons (pe_ifExp (pt_val (pv 8)) (pe_callB cr_len (by rfl) T.f_len PySem.boot_len (pa_cons (pe_fld (pv 0) rfl) pa_nil)) (pv 1)) pa_nil)))))))
      (pss_one (ps_ret (pv 4)))))), ?_⟩
  rintro ds r ⟨⟨circuit_0, count_0, longest_0, log_0, _⟩, rfl, hr⟩
  exact does_d (eX := [.x, .x, .x, .x, .x, .x, .x, .x, .x]) (d := eI) (eL := fun (_ : Unit) => []) (eN := fun (_ : Unit) => []) (show Sx P w K _ _ _ _ _ [.d ((eCircuit K) circuit_0), .d (eI count_0), .d (eI longest_0), .d ((eL eD) log_0), .u, .u, .u, .u, .u] (b_check_log circuit_0 count_0 longest_0 log_0) _ from (sx_asgG (xp_divmod (ap_cons (ep_op (ep_cb (ap_cons ep_var ap_nil) rl_lenLm) ep_var Pw.r2_I0) (ap_cons (ep_op ep_var ep_int Pw.r2_I0) ap_nil))) (fun _ => ge_tup (gs_cons ge_name (gs_cons ge_name gs_nil))) (fun p_1 => (show Sx P w K _ _ _ _ _ [.d ((eCircuit K) circuit_0), .d (eI count_0), .d (eI longest_0), .d ((eL eD) log_0), .d (eI p_1.1), .d (eI p_1.2), .u, .u, .u] _ _ from (sx_if (xt_v (tp_or (tp_test (ep_op ep_var ep_int Pw.r2_B0)) (fun _ => (tp_test (ep_op ep_var ep_int Pw.r2_B0))))) (sx_raise0 (Le.x (Le.x (Le.x (Le.x (Le.x (Le.x (Le.x (Le.x (Le.x Le.nil)))))))))) (sx_skip (sx_for (eS := (fun (v_4 : Unit) => [.d ((eCircuit K) circuit_0), .d (eI count_0), .d (eI longest_0), .d ((eL eD) log_0), .d (eI p_1.1), .d (eI p_1.2), .x, .x, .x])) (v0 := ()) outD_ok (xi_enum (xp_v ep_var)) (Le.s (Le.s (Le.s (Le.s (Le.s (Le.s (Le.x (Le.x (Le.x Le.nil))))))))) (fun v_4 place_5 => ⟨_, (ge_tup (gs_cons ge_name (gs_cons ge_name gs_nil))), (show Sx P w K _ _ _ _ _ [.d ((eCircuit K) circuit_0), .d (eI count_0), .d (eI longest_0), .d ((eL eD) log_0), .d (eI p_1.1), .d (eI p_1.2), .d (eI place_5.1), .d (eD place_5.2), .x] _ _ from (sx_asg (xp_opMV (xp_opVV (ep_op ep_var ep_var Pw.r2_I0) (ep_op ep_var ep_int Pw.r2_I0) rm_mod) ep_int (fun _ => (rm_v Pw.r2_eqI))) (fun is_clock_7 => (show Sx P w K _ _ _ _ _ [.d ((eCircuit K) circuit_0), .d (eI count_0), .d (eI longest_0), .d ((eL eD) log_0), .d (eI p_1.1), .d (eI p_1.2), .d (eI place_5.1), .d (eD place_5.2), .d (eB is_clock_7)] _ _ from (sx_last (sx_drop (xp_callX (xa_v (ds := (fun (a_ : Dt × Int × Unit) => [eD a_.1, eI a_.2.1])) (v := (place_5.2, ((if is_clock_7 = true then (circuit_0.1.os.length : Int) else count_0), ()))) (ap_cons ep_var (ap_cons (ep_ifV (tp_B ep_var) (ep_cb (ap_cons (ep_fld T.k_Circuit (T.a_Circuit "outputs" (by decide)) ep_var rfl) ap_nil) rl_lenTm) ep_var) ap_nil))) (fun _ => rfl) (Le.x (Le.x (Le.x (Le.x (Le.x (Le.x (Le.x (Le.x (Le.x Le.nil)))))))))) (fun _ => (sx_end (Le.s (Le.s (Le.s (Le.s (Le.s (Le.s (Le.x (Le.x (Le.x Le.nil)))))))))))))))))⟩) (fun w_9 => (show Sx P w K _ _ _ _ _ [.d ((eCircuit K) circuit_0), .d (eI count_0), .d (eI longest_0), .d ((eL eD) log_0), .d (eI p_1.1), .d (eI p_1.2), .x, .x, .x] _ _ from (sx_last (sx_ret (xp_v ep_var) (fun _ => rfl)))))))))))) hr
def b_read_back (circuit_0 : CV) (count_0 : Int) (log_0 : (List Dt)) : R (Ctl Unit Unit (List (List Int))) := (R.bind (R.bind (R.ok (circuit_0, ((eI count_0), ()))) fun t_1 => m_chains t_1.1 t_1.2.1) fun found_2 => (R.bind (R.bind (ixR found_2 (0 : Int)) fun t_3 => R.ok (t_3.length : Int)) fun longest_4 => (R.bind (R.bind (R.ok (circuit_0, (count_0, (longest_4, (log_0, ()))))) fun t_5 => m_check_log t_5.1 t_5.2.1 t_5.2.2.1 t_5.2.2.2.1) fun many_6 => (R.bind (R.ofO ((asL (asT asI)) ((eL eD) log_0))) fun log_7 => (R.bind (R.ok ([] : (List (List Int)))) fun rows_9 => (R.bind (R.bind (R.ok (many_6, ())) fun t_10 => R.need (-100000 ≤ t_10.1 ∧ t_10.1 ≤ 100000) (R.ok (rangeI 0 (t_10.1).toNat))) fun l_32 => R.bindC (R.forR l_32 rows_9 (fun (v_11 : (List (List Int))) k_12 => (R.bind (R.bind (mulR k_12 (longest_4 + (1 : Int))) fun t_13 => (R.ok (longest_4 + t_13))) fun place_14 => (R.bind (R.ok ([] : (List Int))) fun taken_16 => (R.bind (R.bind (R.ok found_2) fun t_17 => R.ok (enumI t_17)) fun l_30 => R.bindC (R.forR l_30 taken_16 (fun (v_18 : (List Int)) number_19 => (R.bind (R.bind (R.bind (R.ok ((number_19.2.length : Int), ())) fun t_20 => R.need (-100000 ≤ t_20.1 ∧ t_20.1 ≤ 100000) (R.ok (rangeI 0 (t_20.1).toNat))) fun l_23 => (R.lcR l_23 (fun back_21 => (R.ok true)) (fun back_21 => (R.bind (ixR log_7 ((place_14 + (1 : Int)) + back_21)) fun t_22 => (ixR t_22 number_19.1)))).nox) fun leaving_24 => (R.bind (R.bind (R.ok leaving_24) fun t_25 => R.ok (List.reverse t_25)) fun t_26 => R.need ((v_18).length + t_26.length ≤ 100000) (R.ok (Ctl.nx (v_18 ++ t_26))))))) (fun (w_27 : (List Int)) => (R.bind (R.bind (ixR log_7 place_14) fun t_28 => (catR t_28 w_27)) fun t_29 => R.need ((List.map (eT eI) v_11).length < 100000) (R.ok (Ctl.nx (v_11 ++ [t_29])))))))))) (fun (w_31 : (List (List Int))) => (R.ok (Ctl.rt w_31)))))))))
def m_read_back (circuit_0 : CV) (count_0 : Int) (log_0 : (List Dt)) : R (List (List Int)) := (b_read_back circuit_0 count_0 log_0).fin
abbrev R_read_back (K : PySem.W.Frag) : List Dt → Rs → Prop := RF K (fun (a_ : CV × Int × (List Dt) × Unit) => [(eCircuit K) a_.1, eI a_.2.1, (eL eD) a_.2.2.1]) (fun a_ => m_read_back a_.1 a_.2.1 a_.2.2.1) (fun (b_ : (List (List Int))) => .o ((oL (eT eI)) b_))
theorem l_read_back (K : PySem.W.Frag) (ds : List Dt) (r : Rs) (h : R_read_back K ds r) : ds.length = 3 := by
  obtain ⟨_, rfl, _⟩ := h
  rfl
abbrev s_read_back : Stmt := top 33
abbrev N_read_back : List Str := ["circuit", "count", "log", "found", "longest", "many", "rows", "k", "place", "taken", "number", "chain", "leaving", "back"]
theorem sc_read_back : FnScope N_read_back ["circuit", "count", "log"] (defScope s_read_back) := ⟨rfl, rfl, rfl, by decide +kernel, rfl, by decide +kernel, by decide +kernel⟩
theorem k_read_back (T : Txt K mg) (D : Dx K mg "read_back" ["circuit", "count", "log"] s_read_back)  (G_chains : Fx P w K mg base 2 "chains" ["circuit", "count"] (spR P w K (R_chains K))) (G__check_log : Fx P w K mg base 5 "_check_log" ["circuit", "count", "longest", "log"] (spR P w K (R_check_log K))) : Fx P w K mg base 6 "read_back" ["circuit", "count", "log"] (spR P w K (R_read_back K)) := by
  refine Fx.ofX D sc_read_back (l_read_back K) fun f cdv A outer s H E hr tk => ?_
  refine ⟨_, (pss_cons (pset (i := 3) sc_read_back.nd (pe_fxS G_chains (hr.mono (by decide)) tk (pa_cons (pv 0) (pa_cons (pv 1) pa_nil))))
      (pss_cons (pset (i := 4) sc_read_back.nd (pe_callB cr_len (by rfl) T.f_len PySem.boot_len (pa_cons (pe_ix ix_list (pv 3) pe_int (fun _ _ => rfl)) pa_nil)))
      (pss_cons (pset (i := 5) sc_read_back.nd (pe_fxS G__check_log (hr.mono (by decide)) tk (pa_cons (pv 0) (pa_cons (pv 1) (pa_cons (pv 4) (pa_cons (pv 2) pa_nil))))))
      (pss_cons (pset (i := 6) sc_read_back.nd (pe_lst pa_nil))
      (pss_cons (ps_for (passes_of rfl) rfl (pi_range1 rfl T.f_range (pa_cons (pv 5) pa_nil)) (pgn (i := 7) sc_read_back.nd)
      (pss_cons (pset (i := 8) sc_read_back.nd (pe_op op_add (pv 4) (pe_op op_mul (pv 7) (pe_op op_add (pv 4) pe_int))))
      (pss_cons (pset (i := 9) sc_read_back.nd (pe_lst pa_nil))
      (pss_cons (ps_for (passes_of rfl) rfl (pi_enum (by rfl) T.f_enumerate (pa_cons (pv 3) pa_nil)) (pg_tup rfl (pgs_cons (pgn (i := 10) sc_read_back.nd) (pgs_cons (pgn (i := 11) sc_read_back.nd) pgs_nil)))
      (pss_cons (ps_setLc (i := 12) (own := [("back", 13)]) (g := gName 13) (tt := tYes) rfl sc_read_back.nd rfl rfl (sw_true rfl rfl rfl (by decide +kernel)) (pi_range1 rfl T.f_range (pa_cons (pe_callB cr_len (by rfl) T.f_len PySem.boot_len (pa_cons (pv 11) pa_nil)) pa_nil)) (blkOk_by (N := N_read_back) (sc := defScope s_read_back) (by decide +kernel)) (fun _ _ _ _ _ => (pgn (i := 13) sc_read_back.nd)) (fun _ _ _ _ _ => pts_nil) (fun _ _ _ _ _ => (pe_ix (show IxR _ (rIxT K) from ix_tup) (pe_ix (show IxR _ (rIxL K) from ix_list) (pv 2) (pe_op op_add (pe_op op_add (pv 8) pe_int) (pv 13)) (fun _ _ => rfl)) (pv 10) (fun _ _ => rfl))))
      (pss_one (ps_expr (pe_bm PySem.F.plainAttrs_list PySem.F.slot_list_extend PySem.F.type_list_extend mt_extend (pv 9) (pa_cons (pe_revL (pv 12)) pa_nil))))))
      (pss_one (ps_expr (pe_bm PySem.F.plainAttrs_list PySem.F.slot_list_append PySem.F.type_list_append mt_append (pv 6) (pa_cons (pe_op op_catA (pe_ix ix_list (pv 2) (pv 8) (fun _ _ => rfl)) (pe_callTy cr_tuple (by rfl) T.f_tuple (by decide +kernel) (pa_cons (pv 9) pa_nil))) pa_nil))))))))
      (pss_one (ps_ret (pv 6)))))))), ?_⟩
  rintro ds r ⟨⟨circuit_0, count_0, log_0, _⟩, rfl, hr⟩
  exact does_o (eX := [.x, .x, .x, .x, .x, .x, .x, .x, .x, .x, .x, .x, .x, .x]) (u := (oL (eT eI))) (eL := fun (_ : Unit) => []) (eN := fun (_ : Unit) => []) (show Sx P w K _ _ _ _ _ [.d ((eCircuit K) circuit_0), .d (eI count_0), .d ((eL eD) log_0), .u, .u, .u, .u, .u, .u, .u, .u, .u, .u, .u] (b_read_back circuit_0 count_0 log_0) _ from (sx_asg (xp_o (xo_callX (xa_v (ds := (fun (a_ : CV × Dt × Unit) => [(eCircuit K) a_.1, eD a_.2.1])) (v := (circuit_0, ((eI count_0), ()))) (ap_cons ep_var (ap_cons ep_var ap_nil))) (fun _ => rfl) (Le.x (Le.x (Le.x (Le.x (Le.x (Le.x (Le.x (Le.x (Le.x (Le.x (Le.x (Le.x (Le.x (Le.x Le.nil))))))))))))))) (fun _ => rfl)) (fun found_2 => (show Sx P w K _ _ _ _ _ [.d ((eCircuit K) circuit_0), .d (eI count_0), .d ((eL eD) log_0), .d ((eL (eT eI)) found_2), .u, .u, .u, .u, .u, .u, .u, .u, .u, .u] _ _ from (sx_asg (xp_b1 (xp_opVV ep_var ep_int rm_ixL) (fun _ => rl_lenTm)) (fun longest_4 => (show Sx P w K _ _ _ _ _ [.d ((eCircuit K) circuit_0), .d (eI count_0), .d ((eL eD) log_0), .d ((eL (eT eI)) found_2), .d (eI longest_4), .u, .u, .u, .u, .u, .u, .u, .u, .u] _ _ from (sx_asg (xp_callX (xa_v (ds := (fun (a_ : CV × Int × Int × (List Dt) × Unit) => [(eCircuit K) a_.1, eI a_.2.1, eI a_.2.2.1, (eL eD) a_.2.2.2.1])) (v := (circuit_0, (count_0, (longest_4, (log_0, ()))))) (ap_cons ep_var (ap_cons ep_var (ap_cons ep_var (ap_cons ep_var ap_nil))))) (fun _ => rfl) (Le.x (Le.x (Le.x (Le.x (Le.x (Le.x (Le.x (Le.x (Le.x (Le.x (Le.x (Le.x (Le.x (Le.x Le.nil))))))))))))))) (fun many_6 => (show Sx P w K _ _ _ _ _ [.d ((eCircuit K) circuit_0), .d (eI count_0), .d ((eL eD) log_0), .d ((eL (eT eI)) found_2), .d (eI longest_4), .d (eI many_6), .u, .u, .u, .u, .u, .u, .u, .u] _ _ from (sx_cast (i := 2) (as_list (as_tup as_int)) rfl (fun log_7 => (show Sx P w K _ _ _ _ _ [.d ((eCircuit K) circuit_0), .d (eI count_0), .d ((eL (eT eI)) log_7), .d ((eL (eT eI)) found_2), .d (eI longest_4), .d (eI many_6), .u, .u, .u, .u, .u, .u, .u, .u] (R.bind (R.ok ([] : (List (List Int)))) fun rows_9 => (R.bind (R.bind (R.ok (many_6, ())) fun t_10 => R.need (-100000 ≤ t_10.1 ∧ t_10.1 ≤ 100000) (R.ok (rangeI 0 (t_10.1).toNat))) fun l_32 => R.bindC (R.forR l_32 rows_9 (fun (v_11 : (List (List Int))) k_12 => (R.bind (R.bind (mulR k_12 (longest_4 + (1 : Int))) fun t_13 => (R.ok (longest_4 + t_13))) fun place_14 => (R.bind (R.ok ([] : (List Int))) fun taken_16 => (R.bind (R.bind (R.ok found_2) fun t_17 => R.ok (enumI t_17)) fun l_30 => R.bindC (R.forR l_30 taken_16 (fun (v_18 : (List Int)) number_19 => (R.bind (R.bind (R.bind (R.ok ((number_19.2.length : Int), ())) fun t_20 => R.need (-100000 ≤ t_20.1 ∧ t_20.1 ≤ 100000) (R.ok (rangeI 0 (t_20.1).toNat))) fun l_23 => (R.lcR l_23 (fun back_21 => (R.ok true)) (fun back_21 => (R.bind (ixR log_7 ((place_14 + (1 : Int)) + back_21)) fun t_22 => (ixR t_22 number_19.1)))).nox) fun leaving_24 => (R.bind (R.bind (R.ok leaving_24) fun t_25 => R.ok (List.reverse t_25)) fun t_26 => R.need ((v_18).length + t_26.length ≤ 100000) (R.ok (Ctl.nx (v_18 ++ t_26))))))) (fun (w_27 : (List Int)) => (R.bind (R.bind (ixR log_7 place_14) fun t_28 => (catR t_28 w_27)) fun t_29 => R.need ((List.map (eT eI) v_11).length < 100000) (R.ok (Ctl.nx (v_11 ++ [t_29])))))))))) (fun (w_31 : (List (List Int))) => (R.ok (Ctl.rt w_31))))) _ from (sx_own (xo_v (po_n (np_lst ap_nil))) (fun rows_9 => (show Sx P w K _ _ _ _ _ [.d ((eCircuit K) circuit_0), .d (eI count_0), .d ((eL (eT eI)) log_7), .d ((eL (eT eI)) found_2), .d (eI longest_4), .d (eI many_6), .ow none ((oL (eT eI)) rows_9), .u, .u, .u, .u, .u, .u, .u] _ _ from (sx_for (eS := (fun (v_11 : (List (List Int))) => [.d ((eCircuit K) circuit_0), .d (eI count_0), .d ((eL (eT eI)) log_7), .d ((eL (eT eI)) found_2), .d (eI longest_4), .d (eI many_6), .ow none ((oL (eT eI)) v_11), .x, .x, .x, .x, .x, .x, .u])) (v0 := rows_9) outO_ok (xi_rng1 (n := fun (a_ : Int × Unit) => a_.1) (xa_v (ds := (fun (a_ : Int × Unit) => [eI a_.1])) (v := (many_6, ())) (ap_cons ep_var ap_nil))) (Le.s (Le.s (Le.s (Le.s (Le.s (Le.s (Le.s (Le.x (Le.x (Le.x (Le.x (Le.x (Le.x (Le.s Le.nil)))))))))))))) (fun v_11 k_12 => ⟨_, ge_name, (show Sx P w K _ _ _ _ _ [.d ((eCircuit K) circuit_0), .d (eI count_0), .d ((eL (eT eI)) log_7), .d ((eL (eT eI)) found_2), .d (eI longest_4), .d (eI many_6), .ow none ((oL (eT eI)) v_11), .d (eI k_12), .x, .x, .x, .x, .x, .u] _ _ from (sx_asg (xp_opVM ep_var (xp_opVV ep_var (ep_op ep_var ep_int Pw.r2_I0) rm_mul) (fun _ => (rm_v Pw.r2_I0))) (fun place_14 => (show Sx P w K _ _ _ _ _ [.d ((eCircuit K) circuit_0), .d (eI count_0), .d ((eL (eT eI)) log_7), .d ((eL (eT eI)) found_2), .d (eI longest_4), .d (eI many_6), .ow none ((oL (eT eI)) v_11), .d (eI k_12), .d (eI place_14), .x, .x, .x, .x, .u] _ _ from (sx_own (xo_v (po_n (np_lst ap_nil))) (fun taken_16 => (show Sx P w K _ _ _ _ _ [.d ((eCircuit K) circuit_0), .d (eI count_0), .d ((eL (eT eI)) log_7), .d ((eL (eT eI)) found_2), .d (eI longest_4), .d (eI many_6), .ow none ((oL (eT eI)) v_11), .d (eI k_12), .d (eI place_14), .ow none ((oL eI) taken_16), .x, .x, .x, .u] _ _ from (sx_for (eS := (fun (v_18 : (List Int)) => [.d ((eCircuit K) circuit_0), .d (eI count_0), .d ((eL (eT eI)) log_7), .d ((eL (eT eI)) found_2), .d (eI longest_4), .d (eI many_6), .ow none ((oL (eT eI)) v_11), .d (eI k_12), .d (eI place_14), .ow none ((oL eI) v_18), .x, .x, .x, .u])) (v0 := taken_16) outO_ok (xi_enum (xp_v ep_var)) (Le.s (Le.s (Le.s (Le.s (Le.s (Le.s (Le.s (Le.s (Le.s (Le.s (Le.s (Le.s (Le.s (Le.s Le.nil)))))))))))))) (fun v_18 number_19 => ⟨_, (ge_tup (gs_cons ge_name (gs_cons ge_name gs_nil))), (show Sx P w K _ _ _ _ _ [.d ((eCircuit K) circuit_0), .d (eI count_0), .d ((eL (eT eI)) log_7), .d ((eL (eT eI)) found_2), .d (eI longest_4), .d (eI many_6), .ow none ((oL (eT eI)) v_11), .d (eI k_12), .d (eI place_14), .ow none ((oL eI) v_18), .d (eI number_19.1), .d ((eT eI) number_19.2), .x, .u] _ _ from (sx_asg (xp_o (xo_lc (xi_rng1 (n := fun (a_ : Int × Unit) => a_.1) (xa_v (ds := (fun (a_ : Int × Unit) => [eI a_.1])) (v := ((number_19.2.length : Int), ())) (ap_cons (ep_cb (ap_cons ep_var ap_nil) rl_lenTm) ap_nil))) (fun back_21 => ⟨_, gc_name, (xt_v tp_yes), (xp_opMV (xp_opVV ep_var (ep_op (ep_op ep_var ep_int Pw.r2_I0) ep_var Pw.r2_I0) rm_ixL) ep_var (fun _ => rm_ixT))⟩)) (fun _ => rfl)) (fun leaving_24 => (show Sx P w K _ _ _ _ _ [.d ((eCircuit K) circuit_0), .d (eI count_0), .d ((eL (eT eI)) log_7), .d ((eL (eT eI)) found_2), .d (eI longest_4), .d (eI many_6), .ow none ((oL (eT eI)) v_11), .d (eI k_12), .d (eI place_14), .ow none ((oL eI) v_18), .d (eI number_19.1), .d ((eT eI) number_19.2), .d ((eL eI) leaving_24), .u] _ _ from (sx_last (sx_ext (i := 9) rfl (xo_revL (xp_v ep_var)) (fun t_26 => (show Sx P w K _ _ _ _ _ [.d ((eCircuit K) circuit_0), .d (eI count_0), .d ((eL (eT eI)) log_7), .d ((eL (eT eI)) found_2), .d (eI longest_4), .d (eI many_6), .ow none ((oL (eT eI)) v_11), .d (eI k_12), .d (eI place_14), .ow none ((oL eI) (v_18 ++ t_26)), .d (eI number_19.1), .d ((eT eI) number_19.2), .d ((eL eI) leaving_24), .u] _ _ from (sx_end (Le.s (Le.s (Le.s (Le.s (Le.s (Le.s (Le.s (Le.s (Le.s (Le.s (Le.x (Le.x (Le.x (Le.s Le.nil)))))))))))))))))))))))⟩) (fun w_27 => (show Sx P w K _ _ _ _ _ [.d ((eCircuit K) circuit_0), .d (eI count_0), .d ((eL (eT eI)) log_7), .d ((eL (eT eI)) found_2), .d (eI longest_4), .d (eI many_6), .ow none ((oL (eT eI)) v_11), .d (eI k_12), .d (eI place_14), .ow none ((oL eI) w_27), .x, .x, .x, .u] _ _ from (sx_last (sx_app (i := 6) (xs := List.map (eT eI) v_11) rfl (xp_opMV (xp_opVV ep_var ep_var rm_ixL) (ep_tupleO (i := 9) rfl) (fun _ => rm_catT)) (fun t_29 => (sx_app1 6 (show Sx P w K _ _ _ _ _ [.d ((eCircuit K) circuit_0), .d (eI count_0), .d ((eL (eT eI)) log_7), .d ((eL (eT eI)) found_2), .d (eI longest_4), .d (eI many_6), .ow none ((oL (eT eI)) (v_11 ++ [t_29])), .d (eI k_12), .d (eI place_14), .ow none ((oL eI) w_27), .x, .x, .x, .u] _ _ from (sx_end (Le.s (Le.s (Le.s (Le.s (Le.s (Le.s (Le.s (Le.x (Le.x (Le.x (Le.s (Le.s (Le.s (Le.s Le.nil))))))))))))))))))))))))))))))⟩) (fun w_31 => (show Sx P w K _ _ _ _ _ [.d ((eCircuit K) circuit_0), .d (eI count_0), .d ((eL (eT eI)) log_7), .d ((eL (eT eI)) found_2), .d (eI longest_4), .d (eI many_6), .ow none ((oL (eT eI)) w_31), .x, .x, .x, .x, .x, .x, .u] _ _ from (sx_last (sx_retV (i := 6) rfl rfl))))))))))))))))))))) hr
end
end CC

set_option maxHeartbeats 1000000
namespace CC
open PySem PySem.Spec PyProof.Rows L2 Qw Mw RZ
open Evl hiding ea_cons
open Pw (Dt Rp RpL Wk R2d R1d RLd RLn Kq KqL spX2 Xm Xm0 cr_int cr_min2 cr_max2 cr_list cr_tuple rTupS cr_len pe_globI pe_globS pe_globR pe_tyname)
section
variable {P : Program} {w : World} {K : PySem.W.Frag} {mg : Str → Option Value} {base : Heap}

def m_law_draws (xs : List Int) : R Dr := .ok ⟨xs, 0, 0, 1⟩
abbrev R_law_draws (K : PySem.W.Frag) : List Dt → Rs → Prop := RF K (fun (a_ : List Int × Unit) => [eL eI a_.1]) (fun a_ => m_law_draws a_.1) (fun (b_ : Dr) => .o (drO b_))
theorem l_law_draws (K : PySem.W.Frag) (ds : List Dt) (r : Rs) (h : R_law_draws K ds r) : ds.length = 1 := by
  obtain ⟨_, rfl, _⟩ := h
  rfl
abbrev s_law_draws : Stmt := top 35
abbrev N_law_draws : List Str := ["script"]
theorem sc_law_draws : FnScope N_law_draws ["script"] (defScope s_law_draws) := ⟨rfl, rfl, rfl, by decide +kernel, rfl, by decide +kernel, by decide +kernel⟩
theorem k_law_draws (T : Txt K mg) (D : Dx K mg "_law_draws" ["script"] s_law_draws)  : Fx P w K mg base 1 "_law_draws" ["script"] (spR P w K (R_law_draws K)) := by
  refine Fx.of D sc_law_draws (l_law_draws K) fun f cdv A outer s H E hr => ?_
  refine ⟨_, (pss_one (ps_ret (pe_lst (pa_cons (pe_callTy cr_list (by rfl) T.f_list (by decide +kernel) (pa_cons (pv 0) pa_nil)) (pa_cons pe_int (pa_cons pe_int (pa_cons pe_int pa_nil))))))), ?_⟩
  rintro ds r ⟨⟨xs, _⟩, rfl, hr⟩
  rw [show r = .o (drO ⟨xs, 0, 0, 1⟩) from hr]
  exact se_ro (eo_p (po_n (np_lst (ap_cons (ep_new (np_cb (ap_cons ep_var ap_nil) Pw.rn_list)) (ap_cons ep_int (ap_cons ep_int (ap_cons ep_int ap_nil)))))))
def m_law_draw (d : Dr) (n : Int) : R (Int × Dr) := drawR d n
abbrev M_law_draw : Ow → List Dt → Dt → Ow → Prop := RM drO (fun (a_ : Int × Unit) => [eI a_.1]) (fun (v_ : Dr) a_ => m_law_draw v_ a_.1) eI
abbrev s_law_draw : Stmt := top 36
abbrev N_law_draw : List Str := ["draws", "limit", "cell", "value"]
theorem sc_law_draw : FnScope N_law_draw ["draws", "limit"] (defScope s_law_draw) := ⟨rfl, rfl, rfl, by decide +kernel, rfl, by decide +kernel, by decide +kernel⟩
theorem k_law_draw (T : Txt K mg) (D : Dx K mg "_law_draw" ["draws", "limit"] s_law_draw)  : Fx P w K mg base 1 "_law_draw" ["draws", "limit"] (spM P w K M_law_draw) := by
  refine Fx.ofSp D sc_law_draw (spM_len (n := 2) fun _ => rfl) fun f cdv A outer s H E hr => ?_
  refine ⟨_, (pss_cons (ps_if (PW.pt (pw_and (pt_cmpR op_eq (pe_ix ix_list (pv 0) pe_int (fun _ _ => rfl)) pe_int (nomark _)) (pw_and1 (pt_cmpR op_lt (pe_ix ix_list (pv 0) pe_int (fun _ _ => rfl)) (pe_callB cr_len (by rfl) T.f_len PySem.boot_len (pa_cons (pe_ix ix_list (pv 0) pe_int (fun _ _ => rfl)) pa_nil)) (nomark _))))) (pss_cons (pset (i := 2) sc_law_draw.nd (pe_ix ix_list (pe_ix ix_list (pv 0) pe_int (fun _ _ => rfl)) (pe_ix ix_list (pv 0) pe_int (fun _ _ => rfl)) (fun _ _ => rfl)))
      (pss_cons (ps_asg (pe_op op_add (pe_ix ix_list (pv 0) pe_int (fun _ _ => rfl)) pe_int) (pg_sub (pv 0) pe_int set_list))
      (pss_cons (ps_if (pt_cmpR op_ge (pv 2) (pe_op op_pow pe_int pe_int) (nomark _)) (pss_one (ps_asg (pv 2) (pg_sub (pv 0) pe_int set_list))) pss_nil)
      (pss_one (ps_asg (pe_op op_mod (pe_callTy cr_int (by rfl) T.f_int (by decide +kernel) (pa_cons (pe_op op_add (pe_op op_add (pe_op op_mul (pe_ix ix_list (pv 0) pe_int (fun _ _ => rfl)) pe_int) (pv 2)) pe_int) pa_nil)) pe_int) (pg_sub (pv 0) pe_int set_list)))))) pss_nil)
      (pss_cons (ps_if (pt_cmpR op_gt (pe_ix ix_list (pv 0) pe_int (fun _ _ => rfl)) pe_int (nomark _)) (pss_cons (pset (i := 3) sc_law_draw.nd (pe_op op_mod (pe_callTy cr_int (by rfl) T.f_int (by decide +kernel) (pa_cons (pe_ix ix_list (pv 0) pe_int (fun _ _ => rfl)) pa_nil)) (pv 1)))
      (pss_cons (ps_asg (pe_op op_fdiv (pe_ix ix_list (pv 0) pe_int (fun _ _ => rfl)) (pv 1)) (pg_sub (pv 0) pe_int set_list))
      (pss_one (ps_ret (pv 3))))) pss_nil)
      (pss_cons (ps_asg (pe_op op_mod (pe_callTy cr_int (by rfl) T.f_int (by decide +kernel) (pa_cons (pe_op op_add (pe_op op_mul (pe_ix ix_list (pv 0) pe_int (fun _ _ => rfl)) pe_int) pe_int) pa_nil)) pe_int) (pg_sub (pv 0) pe_int set_list))
      (pss_one (ps_ret (pe_op op_mod (pe_callTy cr_int (by rfl) T.f_int (by decide +kernel) (pa_cons (pe_op op_fdiv (pe_ix ix_list (pv 0) pe_int (fun _ _ => rfl)) pe_int) pa_nil)) (pv 1))))))), ?_⟩
  intro vs Q h
  refine run_m (us := drO) (eL := fun _ _ _ (_ : Unit) => []) (eN := fun _ _ _ (_ : Unit) => []) (eX := [.x, .x, .x, .x]) (en := fun p s => [.ow (some p) (drO s), .x, .x, .x]) (body := fun v a => R.need (0 < a.1 ∧ a.1 < 1073741824) (.ok (.rt (drV v a.1, drN v a.1)))) h (fun v a => ?_) (fun _ _ => ⟨_, rfl⟩) fun d a p => ?_
  · unfold m_law_draw drawR R.need
    split <;> rfl
  obtain ⟨n, _⟩ := a
  show Sx P w K _ _ _ _ _ [.ow (some p) (drO d), .d (.int n), .u, .u] (R.need (0 < n ∧ n < 1073741824) _) _
  unfold R.need
  split
  · rename_i hn
    show Se P w K _ [.ow (some p) (drO d), .d (.int n), .u, .u] (.rte (.int (drV d n)) [.ow (some p) (drO (drN d n)), .x, .x, .x])
    have r1 : ∀ {env : En} {d : Dr}, env[0]? = some (.ow (some p) (drO d)) → Ep P w K (tOp (rIxL K) (tVar 0) (tC (.int 1))) env (.int d.i) := fun h => ep_ixO h ep_int rfl rfl
    have r2 : ∀ {env : En} {d : Dr}, env[0]? = some (.ow (some p) (drO d)) → Ep P w K (tOp (rIxL K) (tVar 0) (tC (.int 2))) env (.int d.r) := fun h => ep_ixO h ep_int rfl rfl
    have r3 : ∀ {env : En} {d : Dr}, env[0]? = some (.ow (some p) (drO d)) → Ep P w K (tOp (rIxL K) (tVar 0) (tC (.int 3))) env (.int d.s) := fun h => ep_ixO h ep_int rfl rfl
    have r0 : ∀ {env : En} {d : Dr}, env[0]? = some (.ow (some p) (drO d)) → Ep P w K (tOp (rIxL K) (tVar 0) (tC (.int 0))) env (.lst (d.xs.map .int)) := fun h => ep_ixO h ep_int rfl rfl
    refine se_seq (env1 := [.ow (some p) (drO (drStep d)), .d (.int n), .x, .u]) ?_ ?_
    · refine se_if (b := decide (d.r = 0) && decide ((d.i : Int) < ((d.xs.map Dt.int).length : Int))) (te_p (tp_and (tp_test (ep_op (r2 (d := d) rfl) ep_int Pw.r2_eqI)) fun _ => tp_test (ep_op (r1 (d := d) rfl) (ep_cb (ap_cons (r0 (d := d) rfl) ap_nil) Pw.rl_len) Pw.r2_B0))) (fun hb => ?_) (fun hb => ?_)
      · simp only [Bool.and_eq_true, decide_eq_true_eq, List.length_map] at hb
        obtain ⟨h1, h2⟩ := hb
        have h2 : d.i < d.xs.length := by omega
        have hc : drStep d = ⟨d.xs, d.i + 1, if (10 : Int) ^ (18 : Int).toNat ≤ d.xs.getD d.i 0 then d.xs.getD d.i 0 else d.r, (d.s * 48271 + d.xs.getD d.i 0 + 13) % 2147483647⟩ := if_pos ⟨h1, h2⟩
        rw [hc]
        generalize hcell : d.xs.getD d.i 0 = cell
        refine se_seq (se_asg (d := .int cell) (ee_p (ep_op (r0 (d := d) rfl) (r1 (d := d) rfl) (Pw.r2_ixL (j := d.i) (Pw.ixN_at (by omega) (by rw [List.length_map]; omega)) (by rw [List.getElem?_map, Pw.itemD (l := d.xs) 0 h2, hcell]; rfl))))) ?_
        refine se_seq (env1 := [.ow (some p) (drO ⟨d.xs, d.i + 1, d.r, d.s⟩), .d (.int n), .d (.int cell), .u]) (se_is (se_setL (xs := [.lst (d.xs.map .int), .int (d.i : Int), .int d.r, .int d.s]) (n := 1) (d := .int ((d.i + 1 : Nat) : Int)) (ee_p (ep_is (ep_op (r1 (d := d) rfl) ep_int Pw.r2_I0) (by simp))) (ee_p ep_int) rfl rfl) rfl) ?_
        refine se_seq (env1 := [.ow (some p) (drO ⟨d.xs, d.i + 1, if (10 : Int) ^ (18 : Int).toNat ≤ cell then cell else d.r, d.s⟩), .d (.int n), .d (.int cell), .u]) ?_ ?_
        · refine se_if (b := decide ((10 : Int) ^ (18 : Int).toNat ≤ cell)) (te_p (tp_test (ep_op ep_var (ep_op ep_int ep_int (Pw.r2_I (show CPow _ _ from ⟨by decide, by decide, by decide⟩))) Pw.r2_B0))) (fun hb => ?_) (fun hb => ?_)
          · rw [if_pos (of_decide_eq_true hb)]
            exact se_is (se_setL (xs := [.lst (d.xs.map .int), .int ((d.i + 1 : Nat) : Int), .int d.r, .int d.s]) (n := 2) (ee_p ep_var) (ee_p ep_int) rfl rfl) rfl
          · rw [if_neg (of_decide_eq_false hb)]
            exact se_next
        · generalize (if (10 : Int) ^ (18 : Int).toNat ≤ cell then cell else d.r) = r'
          exact se_le (se_is (se_setL (xs := [.lst (d.xs.map .int), .int ((d.i + 1 : Nat) : Int), .int r', .int d.s]) (n := 3) (ee_p (ep_op (ep_cb (ap_cons (ep_op (ep_op (ep_op (r3 (d := ⟨d.xs, d.i + 1, r', d.s⟩) rfl) ep_int (Pw.r2_I (show CMul _ _ from Or.inr ⟨by omega, by omega⟩))) ep_var Pw.r2_I0) ep_int Pw.r2_I0) ap_nil) Pw.rl_int) ep_int (Pw.r2_I (by omega)))) (ee_p ep_int) rfl rfl) rfl) (Le.s (Le.s (Le.x (Le.s Le.nil))))
      · have hc : drStep d = d := if_neg fun z => by
          have : (decide (d.r = 0) && decide ((d.i : Int) < ((d.xs.map Dt.int).length : Int))) = true := by
            simp only [Bool.and_eq_true, decide_eq_true_eq, List.length_map]
            exact ⟨z.1, by omega⟩
          rw [hb] at this
          cases this
        rw [hc]
        exact se_le se_next (Le.s (Le.s (Le.x (Le.s Le.nil))))
    · unfold drV drN
      generalize drStep d = e
      refine se_when (b := decide (0 < e.r)) (te_p (tp_test (ep_op (r2 (d := e) rfl) ep_int Pw.r2_B0))) (fun hb => ?_) (fun hb => ?_)
      · rw [if_pos (of_decide_eq_true hb), if_pos (of_decide_eq_true hb)]
        refine se_seqF ?_
        refine se_seq (se_asg (ee_p (ep_op (ep_cb (ap_cons (r2 (d := e) rfl) ap_nil) Pw.rl_int) ep_var (Pw.r2_I hn.1)))) ?_
        refine se_seq (env1 := [.ow (some p) (drO ⟨e.xs, e.i, e.r / n, e.s⟩), .d (.int n), .x, .d (.int (e.r % n))]) (se_is (se_setL (xs := [.lst (e.xs.map .int), .int (e.i : Int), .int e.r, .int e.s]) (n := 2) (ee_p (ep_op (r2 (d := e) rfl) ep_var (Pw.r2_I (show CDiv _ _ from hn)))) (ee_p ep_int) rfl rfl) rfl) ?_
        exact se_rteL (se_rte (ee_p ep_var)) (Le.s (Le.x (Le.x (Le.x Le.nil))))
      · rw [if_neg (of_decide_eq_false hb), if_neg (of_decide_eq_false hb)]
        refine se_seq (env1 := [.ow (some p) (drO ⟨e.xs, e.i, e.r, (e.s * 69621 + 7) % 2147483629⟩), .d (.int n), .x, .u]) (se_is (se_setL (xs := [.lst (e.xs.map .int), .int (e.i : Int), .int e.r, .int e.s]) (n := 3) (ee_p (ep_op (ep_cb (ap_cons (ep_op (ep_op (r3 (d := e) rfl) ep_int (Pw.r2_I (show CMul _ _ from Or.inr ⟨by omega, by omega⟩))) ep_int Pw.r2_I0) ap_nil) Pw.rl_int) ep_int (Pw.r2_I (by omega)))) (ee_p ep_int) rfl rfl) rfl) ?_
        exact se_rteL (se_rte (ee_p (ep_op (ep_cb (ap_cons (ep_op (r3 (d := ⟨e.xs, e.i, e.r, (e.s * 69621 + 7) % 2147483629⟩) rfl) ep_int (Pw.r2_I (show CDiv _ _ from ⟨by omega, by omega⟩))) ap_nil) Pw.rl_int) ep_var (Pw.r2_I hn.1)))) (Le.s (Le.x (Le.x (Le.x Le.nil))))
  · trivial
abbrev R_law_same (n_ : Nat) (K : PySem.W.Frag) : List Dt → Rs → Prop := RF K (fun (a_ : Dt × Dt × Unit) => [a_.1, a_.2.1]) (fun a_ => sameN n_ a_.1 a_.2.1) (fun b_ => .d (.bl b_))
theorem l_law_same (n_ : Nat) (K : PySem.W.Frag) (ds : List Dt) (r : Rs) (h : R_law_same n_ K ds r) : ds.length = 2 := by
  obtain ⟨_, rfl, _⟩ := h
  rfl
theorem same_head {P : Program} {w : World} {K : PySem.W.Frag} {s : TS} {E : XK} {n : Nat} {a e : Dt} {r : Rs} (hb : ∀ b, sameN n a e = .ok b → Se P w K s [.d a, .d e, .u] (.rt (.bl b)))
    (hr : Got K (sameN n a e) (fun b => .d (.bl b)) r) : Does P w K E s [.d a, .d e, .u] r := by
  cases h : sameN n a e with
  | ok b =>
    rw [h] at hr
    rw [show r = .d (.bl b) from hr]
    exact .inl (hb b h)
  | ex x => exact absurd h (sameN_ne _ _ _ _)
  | no => rw [h] at hr; exact False.elim hr
theorem need_ok {α : Type} {c : Prop} [Decidable c] {m : R α} {a : α} (h : R.need c m = .ok a) : c ∧ m = .ok a := by
  unfold R.need at h
  split at h
  · exact ⟨by assumption, h⟩
  · cases h
abbrev s_law_same : Stmt := top 37
abbrev N_law_same : List Str := ["actual", "expected", "k"]
theorem sc_law_same : FnScope N_law_same ["actual", "expected"] (defScope s_law_same) := ⟨rfl, rfl, rfl, by decide +kernel, rfl, by decide +kernel, by decide +kernel⟩
theorem k_law_same (n_ : Nat) (T : Txt K mg) (D : Dx K mg "_law_same" ["actual", "expected"] s_law_same)  (G__law_same : Fx P w K mg base (n_ + 1) "_law_same" ["actual", "expected"] (spR P w K (R_law_same n_ K))) : Fx P w K mg base (n_ + 2) "_law_same" ["actual", "expected"] (spR P w K (R_law_same (n_ + 1) K)) := by
  refine Fx.of D sc_law_same (l_law_same (n_ + 1) K) fun f cdv A outer s H E hr => ?_
  refine ⟨_, (pss_cons (ps_if (pt_val (pe_callB call_isi (by rfl) T.f_isinstance (by decide +kernel) (pa_cons (pv 1) (pa_cons (pe_tyname (n := "tuple") T.f_tuple) pa_nil)))) (pss_cons (ps_if (PW.pt (pw_or (pt_not (pt_val (pe_callB call_isi (by rfl) T.f_isinstance (by decide +kernel) (pa_cons (pv 0) (pa_cons (pe_tyname (n := "tuple") T.f_tuple) pa_nil))))) (pw_or1 (pt_cmpR op_ne (pe_callB cr_len (by rfl) T.f_len PySem.boot_len (pa_cons (pv 0) pa_nil)) (pe_callB cr_len (by rfl) T.f_len PySem.boot_len (pa_cons (pv 1) pa_nil)) (nomark _))))) (pss_one (ps_ret pe_bl)) pss_nil)
      (pss_cons (ps_for PassesOwn.never rfl (pi_range1 rfl T.f_range (pa_cons (pe_callB cr_len (by rfl) T.f_len PySem.boot_len (pa_cons (pv 1) pa_nil)) pa_nil)) (pgn (i := 2) sc_law_same.nd)
      (pss_one (ps_if (pt_not (pt_val (pe_fx G__law_same (hr.mono (by omega)) (pa_cons (pe_ix ix_tup (pv 0) (pv 2) (fun _ _ => rfl)) (pa_cons (pe_ix ix_tup (pv 1) (pv 2) (fun _ _ => rfl)) pa_nil))))) (pss_one (ps_ret pe_bl)) pss_nil)))
      (pss_one (ps_ret pe_bl)))) pss_nil)
      (pss_cons (ps_if (pt_val (pe_callB call_isi (by rfl) T.f_isinstance (by decide +kernel) (pa_cons (pv 1) (pa_cons (pe_tyname (n := "list") T.f_list) pa_nil)))) (pss_one (ps_ret (pe_and (pe_callB call_isi (by rfl) T.f_isinstance (by decide +kernel) (pa_cons (pv 0) (pa_cons (pe_tyname (n := "list") T.f_list) pa_nil))) (pe_one (pe_fx G__law_same (hr.mono (by omega)) (pa_cons (pe_callTy cr_tuple (by rfl) T.f_tuple (by decide +kernel) (pa_cons (pv 0) pa_nil)) (pa_cons (pe_callTy cr_tuple (by rfl) T.f_tuple (by decide +kernel) (pa_cons (pv 1) pa_nil)) pa_nil))))))) pss_nil)
      (pss_cons (ps_if (pt_val (pe_callB call_isi (by rfl) T.f_isinstance (by decide +kernel) (pa_cons (pv 1) (pa_cons (pe_tyname (n := "str") T.f_str) pa_nil)))) (pss_one (ps_ret (pe_and (pe_callB call_isi (by rfl) T.f_isinstance (by decide +kernel) (pa_cons (pv 0) (pa_cons (pe_tyname (n := "str") T.f_str) pa_nil))) (pe_one (pe_cmpR op_eq (pv 0) (pv 1) (nomark _)))))) pss_nil)
      (pss_cons (ps_if (pt_cmpR op_isN1 (pv 1) pe_non (nomark _)) (pss_one (ps_ret (pe_cmpR op_isN1 (pv 0) pe_non (nomark _)))) pss_nil)
      (pss_cons (ps_if (PW.pt (pw_or (pt_val (pe_callB call_isi (by rfl) T.f_isinstance (by decide +kernel) (pa_cons (pv 1) (pa_cons (pe_tyname (n := "bool") T.f_bool) pa_nil)))) (pw_or1 (pt_val (pe_callB call_isi (by rfl) T.f_isinstance (by decide +kernel) (pa_cons (pv 0) (pa_cons (pe_tyname (n := "bool") T.f_bool) pa_nil))))))) (pss_one (ps_ret (pe_and (pe_callB call_isi (by rfl) T.f_isinstance (by decide +kernel) (pa_cons (pv 1) (pa_cons (pe_tyname (n := "bool") T.f_bool) pa_nil))) (pe_and (pe_callB call_isi (by rfl) T.f_isinstance (by decide +kernel) (pa_cons (pv 0) (pa_cons (pe_tyname (n := "bool") T.f_bool) pa_nil))) (pe_one (pe_cmpR op_eq (pv 0) (pv 1) (nomark _))))))) pss_nil)
      (pss_one (ps_ret (pe_and (pe_callB call_isi (by rfl) T.f_isinstance (by decide +kernel) (pa_cons (pv 0) (pa_cons (pe_tyname (n := "int") T.f_int) pa_nil))) (pe_one (pe_cmpR op_eq (pv 0) (pv 1) (nomark _))))))))))), ?_⟩
  rintro ds r ⟨⟨a, e, _⟩, rfl, hr⟩
  refine same_head (n := n_ + 1) (fun b hb => ?_) hr
  have ii : ∀ {env : En} {i : Nat} {d : Dt} {t : String} {c : Bool}, env[i]? = some (.d d) → RLd K (rIsi K) [d, .ty t] (.bl c) → Ep P w K (tCB (rIsi K) (tCons (tVar i) (tCons (tC (.ty t)) tNil))) env (.bl c) := fun h hr => ep_cb (ap_cons (ep_var h) (ap_cons ep_ty ap_nil)) hr
  cases e with
  | tup es =>
    refine se_when (b := true) (te_p (tp_B (ii rfl (Pw.rl_isTup rfl)))) (fun _ => ?_) (fun z => nomatch z)
    refine se_seqF ?_
    have other : ∀ {tt2 : TT} {s2 : TS}, (Pw.tyD a).isSome = true → Pw.isTp a = false → b = false → Se P w K (tSeq (tIfS (tOr (tNot (tB (tCB (rIsi K) (tCons (tVar 0) (tCons (tC (.ty "tuple")) tNil))))) tt2) (tRet (tC (.bl false))) tNext) s2) [.d a, .d (.tup es), .u] (.rt (.bl b)) := fun {tt2 s2} h1 h2 h3 => by
      subst h3
      exact se_when (b := true) (te_p (tp_or (a := true) (b := true) (tp_is (tp_not (tp_B (ii rfl (Pw.rl_isTup h1)))) (by rw [h2]; rfl)) (fun z => nomatch z))) (fun _ => se_seqF (se_ret (ee_p ep_bl))) (fun z => nomatch z)
    cases a with
    | tup as =>
      simp only [sameN] at hb
      refine se_when (b := !decide ((as.length : Int) = es.length)) (te_p (tp_is (tp_or (a := false) (tp_not (a := true) (tp_B (ii rfl (Pw.rl_isTup rfl)))) fun _ => tp_test (ep_op (ep_cb (ap_cons ep_var ap_nil) Pw.rl_lenT) (ep_cb (ap_cons ep_var ap_nil) Pw.rl_lenT) Pw.r2_neI)) (Bool.false_or _))) (fun h => ?_) (fun h => ?_)
      · rw [if_neg (by intro z; rw [z] at h; simp at h)] at hb
        cases hb
        exact se_seqF (se_ret (ee_p ep_bl))
      · have hl : as.length = es.length := by
          simp at h
          omega
        rw [if_pos hl] at hb
        obtain ⟨⟨h1, h2⟩, hb⟩ := need_ok hb
        cases hb
        have at1 : ∀ k : Nat, k < es.length → as[k]? = some (as.getD k .non) ∧ es[k]? = some (es.getD k .non) := fun k hk => ⟨Pw.itemD _ (by omega), Pw.itemD _ hk⟩
        have mem : ∀ k : Nat, k < es.length → (as.getD k .non, es.getD k .non) ∈ as.zip es := fun k hk => List.mem_of_getElem? (i := k) (by rw [List.getElem?_zip_eq_some]; exact at1 k hk)
        have okk : ∀ k : Nat, k < es.length → ∃ c, sameN n_ (as.getD k .non) (es.getD k .non) = .ok c := fun k hk => by
          have := List.all_eq_true.mp h2 _ (mem k hk)
          cases q : sameN n_ (as.getD k .non) (es.getD k .non) with
          | ok c => exact ⟨c, rfl⟩
          | ex x => rw [q] at this; cases this
          | no => rw [q] at this; cases this
        refine se_first (List.range es.length) (fun i : Nat => Dt.int (i : Int)) (fun k => !(sameN n_ (as.getD k .non) (es.getD k .non)).isTrue) (fun _ => .bl false) (by
          have := ip_rng1 (P := P) (w := w) (K := K) (env := [.d (.tup as), .d (.tup es), .u]) (tA := tCons (tCB (rLenS K) (tCons (tVar 1) tNil)) tNil) (n := (es.length : Int)) (ap_cons (ep_cb (ap_cons ep_var ap_nil) Pw.rl_lenT) ap_nil) (by omega)
          rw [Pw.rangeD_nat] at this
          exact this) [.d (.tup as), .d (.tup es), .x] (Le.s (Le.s (Le.x Le.nil))) (fun k hk => ?_) (fun hf => ?_) (fun k hf => ?_)
        · have hk : k < es.length := by simpa using hk
          obtain ⟨c, hc⟩ := okk k hk
          have call : Te P w K (tNot (tB (tCall (spR P w K (R_law_same n_ K)) [] E0 (tCons (tOp (rIxT K) (tVar 0) (tVar 2)) (tCons (tOp (rIxT K) (tVar 1) (tVar 2)) tNil))))) [.d (.tup as), .d (.tup es), .d (.int (k : Int))] (!c) [.d (.tup as), .d (.tup es), .d (.int (k : Int))] :=
            te_p (tp_not (tp_B (ep_call (ap_cons (ep_op ep_var ep_var (Pw.r2_ixT (Pw.ixN_at (by omega) (by omega)) (by rw [Int.toNat_natCast]; exact (at1 k hk).1))) (ap_cons (ep_op ep_var ep_var (Pw.r2_ixT (Pw.ixN_at (by omega) (by omega)) (by rw [Int.toNat_natCast]; exact (at1 k hk).2))) ap_nil)) ⟨(as.getD k .non, es.getD k .non, ()), rfl, by simp only [hc]; rfl⟩)))
          refine ⟨_, ge_name, fun hp => ?_, fun hp => ?_⟩
          · have : c = false := by rw [hc] at hp; cases c <;> first | rfl | cases hp
            subst this
            exact se_if (b := true) call (fun _ => se_ret (ee_p ep_bl)) (fun z => nomatch z)
          · have : c = true := by rw [hc] at hp; cases c <;> first | rfl | cases hp
            subst this
            exact se_nc (se_le (se_if (b := false) call (fun z => nomatch z) (fun _ => se_next)) (Le.s (Le.s (Le.x Le.nil))))
        · have : ((as.zip es).all fun p => (sameN n_ p.1 p.2).isTrue) = true := List.all_eq_true.mpr fun p hp => by
            obtain ⟨k, hk⟩ := List.getElem?_of_mem hp
            rw [List.getElem?_zip_eq_some] at hk
            have hlt := (List.getElem?_eq_some_iff.mp hk.2).1
            have := List.find?_eq_none.mp hf k (by simpa using hlt)
            have e1 := (at1 k hlt).1.symm.trans hk.1
            have e2 := (at1 k hlt).2.symm.trans hk.2
            rw [← Option.some.inj e1, ← Option.some.inj e2]
            simpa using this
          rw [this]
          exact se_ret (ee_p ep_bl)
        · have h3 := List.find?_some hf
          have hk : k < es.length := by simpa using List.mem_of_find?_eq_some hf
          have : ((as.zip es).all fun p => (sameN n_ p.1 p.2).isTrue) = false := by
            rw [List.all_eq_false]
            exact ⟨_, mem k hk, by simpa using h3⟩
          rw [this]
    | _ => exact other (need_ok hb).1 rfl (R.ok.inj (need_ok hb).2).symm
  | lst es =>
    refine se_when (b := false) (te_p (tp_B (ii rfl (Pw.rl_isTup rfl)))) (fun z => nomatch z) (fun _ => ?_)
    refine se_when (b := true) (te_p (tp_B (ii rfl (Pw.rl_isList rfl)))) (fun _ => ?_) (fun z => nomatch z)
    refine se_seqF (se_ret (ee_p ?_))
    cases a with
    | lst as => exact ep_is (ep_and (a := true) (ii rfl (Pw.rl_isList rfl)) fun _ => ep_call (d := .bl b) (ap_cons (ep_cb (ap_cons ep_var ap_nil) Pw.rl_tup) (ap_cons (ep_cb (ap_cons ep_var ap_nil) Pw.rl_tup) ap_nil)) ⟨(.tup as, .tup es, ()), rfl, by simp only [show sameN n_ (.tup as) (.tup es) = .ok b from hb]; rfl⟩) (by simp)
    | _ => exact ep_is (ep_and (a := false) (b := true) (ii rfl (Pw.rl_isList (need_ok hb).1)) (fun z => nomatch z)) (by rw [← R.ok.inj (need_ok hb).2]; rfl)
  | str x =>
    refine se_when (b := false) (te_p (tp_B (ii rfl (Pw.rl_isTup rfl)))) (fun z => nomatch z) (fun _ => ?_)
    refine se_when (b := false) (te_p (tp_B (ii rfl (Pw.rl_isList rfl)))) (fun z => nomatch z) (fun _ => ?_)
    refine se_when (b := true) (te_p (tp_B (ii rfl (Pw.rl_isStr rfl)))) (fun _ => ?_) (fun z => nomatch z)
    refine se_seqF (se_ret (ee_p ?_))
    cases a with
    | str y => exact ep_is (ep_and (a := true) (ii rfl (Pw.rl_isStr rfl)) fun _ => ep_op ep_var ep_var Pw.r2_eqS) (by rw [← R.ok.inj hb]; rfl)
    | _ => exact ep_is (ep_and (a := false) (b := true) (ii rfl (Pw.rl_isStr (need_ok hb).1)) (fun z => nomatch z)) (by rw [← R.ok.inj (need_ok hb).2]; rfl)
  | non =>
    refine se_when (b := false) (te_p (tp_B (ii rfl (Pw.rl_isTup rfl)))) (fun z => nomatch z) (fun _ => ?_)
    refine se_when (b := false) (te_p (tp_B (ii rfl (Pw.rl_isList rfl)))) (fun z => nomatch z) (fun _ => ?_)
    refine se_when (b := false) (te_p (tp_B (ii rfl (Pw.rl_isStr rfl)))) (fun z => nomatch z) (fun _ => ?_)
    refine se_when (b := true) (te_p (tp_test (b := true) (ep_isN (d := .non) ep_var))) (fun _ => ?_) (fun z => nomatch z)
    cases hb
    exact se_seqF (se_ret (ee_p (ep_isN (d := a) ep_var)))
  | bl c =>
    refine se_when (b := false) (te_p (tp_B (ii rfl (Pw.rl_isTup rfl)))) (fun z => nomatch z) (fun _ => ?_)
    refine se_when (b := false) (te_p (tp_B (ii rfl (Pw.rl_isList rfl)))) (fun z => nomatch z) (fun _ => ?_)
    refine se_when (b := false) (te_p (tp_B (ii rfl (Pw.rl_isStr rfl)))) (fun z => nomatch z) (fun _ => ?_)
    refine se_when (b := false) (te_p (tp_test (b := false) (ep_isN (d := .bl c) ep_var))) (fun z => nomatch z) (fun _ => ?_)
    refine se_when (b := true) (te_p (tp_or (a := true) (b := true) (tp_B (ii rfl (Pw.rl_isBool rfl))) (fun z => nomatch z))) (fun _ => ?_) (fun z => nomatch z)
    refine se_seqF (se_ret (ee_p ?_))
    cases a with
    | bl y => exact ep_is (ep_and (a := true) (ii rfl (Pw.rl_isBool rfl)) fun _ => ep_and (a := true) (ii rfl (Pw.rl_isBool rfl)) fun _ => ep_op ep_var ep_var r2_eqB) (by rw [← R.ok.inj hb]; rfl)
    | _ => exact ep_is (ep_and (a := true) (ii rfl (Pw.rl_isBool rfl)) fun _ => ep_and (a := false) (b := true) (ii rfl (Pw.rl_isBool (need_ok hb).1)) (fun z => nomatch z)) (by rw [← R.ok.inj (need_ok hb).2]; rfl)
  | int i =>
    refine se_when (b := false) (te_p (tp_B (ii rfl (Pw.rl_isTup rfl)))) (fun z => nomatch z) (fun _ => ?_)
    refine se_when (b := false) (te_p (tp_B (ii rfl (Pw.rl_isList rfl)))) (fun z => nomatch z) (fun _ => ?_)
    refine se_when (b := false) (te_p (tp_B (ii rfl (Pw.rl_isStr rfl)))) (fun z => nomatch z) (fun _ => ?_)
    refine se_when (b := false) (te_p (tp_test (b := false) (ep_isN (d := .int i) ep_var))) (fun z => nomatch z) (fun _ => ?_)
    cases a with
    | bl y =>
      refine se_when (b := true) (te_p (tp_or (a := false) (b := true) (tp_B (ii rfl (Pw.rl_isBool rfl))) (fun _ => tp_B (ii rfl (Pw.rl_isBool rfl))))) (fun _ => ?_) (fun z => nomatch z)
      exact se_seqF (se_ret (ee_p (ep_is (ep_and (a := false) (b := true) (ii rfl (Pw.rl_isBool rfl)) (fun z => nomatch z)) (by rw [← R.ok.inj (need_ok hb).2]; rfl))))
    | int y =>
      refine se_when (b := false) (te_p (tp_or (a := false) (b := false) (tp_B (ii rfl (Pw.rl_isBool rfl))) (fun _ => tp_B (ii rfl (Pw.rl_isBool rfl))))) (fun z => nomatch z) (fun _ => ?_)
      exact se_ret (ee_p (ep_is (ep_and (a := true) (ii rfl (Pw.rl_isInt rfl)) fun _ => ep_op ep_var ep_var Pw.r2_eqI) (by rw [← R.ok.inj hb]; rfl)))
    | _ =>
      refine se_when (b := false) (te_p (tp_or (a := false) (b := false) (tp_B (ii rfl (Pw.rl_isBool rfl))) (fun _ => tp_B (ii rfl (Pw.rl_isBool (need_ok hb).1))))) (fun z => nomatch z) (fun _ => ?_)
      exact se_ret (ee_p (ep_is (ep_and (a := false) (b := true) (ii rfl (Pw.rl_isInt (need_ok hb).1)) (fun z => nomatch z)) (by rw [← R.ok.inj (need_ok hb).2]; rfl)))
  | _ => cases hb
theorem same0 (D : Dx K mg "_law_same" ["actual", "expected"] s_law_same) : Fx P w K mg base (0 + 1) "_law_same" ["actual", "expected"] (spR P w K (R_law_same 0 K)) := by
  obtain ⟨f, fd, h1, F, h3⟩ := D
  exact ⟨f, fd, h1, F.kp, h3, ⟨fun vs H Q E ⟨_, _, _, _, _, ⟨_, _, z⟩, _⟩ => False.elim z, fun A outer s H args us vs Q E _ _ _ _ ⟨_, _, _, _, _, ⟨_, _, z⟩, _⟩ => False.elim z⟩⟩
def b_law_chains (size_0 : Int) (count_0 : Int) : R (Ctl Unit Unit (List (List Int))) := (R.bind (R.ok ([] : (List Int))) fun rows_2 => (R.bind (R.bind (R.ok (size_0, ())) fun t_3 => R.need (-100000 ≤ t_3.1 ∧ t_3.1 ≤ 100000) (R.ok (rangeI 0 (t_3.1).toNat))) fun l_20 => R.bindC (R.forR l_20 rows_2 (fun (v_4 : (List Int)) k_5 => (R.bind (R.ok k_5) fun t_6 => R.need ((List.map eI v_4).length < 100000) (R.ok (Ctl.nx (v_4 ++ [t_6])))))) (fun (w_7 : (List Int)) => (R.bind (R.ok ([] : (List (List Int)))) fun found_9 => (R.bind (R.bind (R.ok (count_0, ())) fun t_10 => R.need (-100000 ≤ t_10.1 ∧ t_10.1 ≤ 100000) (R.ok (rangeI 0 (t_10.1).toNat))) fun l_19 => R.bindC (R.forR l_19 (w_7, found_9) (fun (v_11 : (List Int) × (List (List Int))) k_12 => (R.bind (divR ((((v_11.1.length : Int) + count_0) - k_12) - (1 : Int)) (count_0 - k_12)) fun length_13 => (R.bind (R.bind (R.ok v_11.1) fun t_14 => R.ok (cutR t_14 none (some length_13))) fun t_15 => R.need ((List.map (eT eI) v_11.2).length < 100000) (R.bind (R.bind (R.ok v_11.1) fun t_16 => R.ok (cutR t_16 (some length_13) none)) fun rows_17 => (R.ok (Ctl.nx (rows_17, (v_11.2 ++ [t_15]))))))))) (fun (w_18 : (List Int) × (List (List Int))) => (R.ok (Ctl.rt w_18.2))))))))
def m_law_chains (size_0 : Int) (count_0 : Int) : R (List (List Int)) := (b_law_chains size_0 count_0).fin
abbrev R_law_chains (K : PySem.W.Frag) : List Dt → Rs → Prop := RF K (fun (a_ : Int × Int × Unit) => [eI a_.1, eI a_.2.1]) (fun a_ => m_law_chains a_.1 a_.2.1) (fun (b_ : (List (List Int))) => .o ((oL (eT eI)) b_))
theorem l_law_chains (K : PySem.W.Frag) (ds : List Dt) (r : Rs) (h : R_law_chains K ds r) : ds.length = 2 := by
  obtain ⟨_, rfl, _⟩ := h
  rfl
abbrev s_law_chains : Stmt := top 38
abbrev N_law_chains : List Str := ["size", "count", "rows", "k", "found", "length"]
theorem sc_law_chains : FnScope N_law_chains ["size", "count"] (defScope s_law_chains) := ⟨rfl, rfl, rfl, by decide +kernel, rfl, by decide +kernel, by decide +kernel⟩
theorem k_law_chains (T : Txt K mg) (D : Dx K mg "_law_chains" ["size", "count"] s_law_chains)  : Fx P w K mg base 1 "_law_chains" ["size", "count"] (spR P w K (R_law_chains K)) := by
  refine Fx.of D sc_law_chains (l_law_chains K) fun f cdv A outer s H E hr => ?_
  refine ⟨_, (pss_cons (pset (i := 2) sc_law_chains.nd (pe_lst pa_nil))
      (pss_cons (ps_for PassesOwn.never rfl (pi_range1 rfl T.f_range (pa_cons (pv 0) pa_nil)) (pgn (i := 3) sc_law_chains.nd)
      (pss_one (ps_expr (pe_bm PySem.F.plainAttrs_list PySem.F.slot_list_append PySem.F.type_list_append mt_append (pv 2) (pa_cons (pv 3) pa_nil)))))
      (pss_cons (pset (i := 4) sc_law_chains.nd (pe_lst pa_nil))
      (pss_cons (ps_for PassesOwn.never rfl (pi_range1 rfl T.f_range (pa_cons (pv 1) pa_nil)) (pgn (i := 3) sc_law_chains.nd)
      (pss_cons (pset (i := 5) sc_law_chains.nd (pe_op op_fdiv (pe_op op_sub (pe_op op_sub (pe_op op_add (pe_callB cr_len (by rfl) T.f_len PySem.boot_len (pa_cons (pv 2) pa_nil)) (pv 1)) (pv 3)) pe_int) (pe_op op_sub (pv 1) (pv 3))))
      (pss_cons (ps_expr (pe_bm PySem.F.plainAttrs_list PySem.F.slot_list_append PySem.F.type_list_append mt_append (pv 4) (pa_cons (pe_callTy cr_tuple (by rfl) T.f_tuple (by decide +kernel) (pa_cons (pe_slice sl_list (pv 2) po_none (po_some (pv 5))) pa_nil)) pa_nil)))
      (pss_one (pset (i := 2) sc_law_chains.nd (pe_slice sl_list (pv 2) (po_some (pv 5)) po_none))))))
      (pss_one (ps_ret (pv 4))))))), ?_⟩
  rintro ds r ⟨⟨size_0, count_0, _⟩, rfl, hr⟩
  exact does_o (eX := [.x, .x, .x, .x, .x, .x]) (u := (oL (eT eI))) (eL := fun (_ : Unit) => []) (eN := fun (_ : Unit) => []) (show Sx P w K _ _ _ _ _ [.d (eI size_0), .d (eI count_0), .u, .u, .u, .u] (b_law_chains size_0 count_0) _ from (sx_own (xo_v (po_n (np_lst ap_nil))) (fun rows_2 => (show Sx P w K _ _ _ _ _ [.d (eI size_0), .d (eI count_0), .ow none ((oL eI) rows_2), .u, .u, .u] _ _ from (sx_for (eS := (fun (v_4 : (List Int)) => [.d (eI size_0), .d (eI count_0), .ow none ((oL eI) v_4), .x, .u, .u])) (v0 := rows_2) outO_ok (xi_rng1 (n := fun (a_ : Int × Unit) => a_.1) (xa_v (ds := (fun (a_ : Int × Unit) => [eI a_.1])) (v := (size_0, ())) (ap_cons ep_var ap_nil))) (Le.s (Le.s (Le.s (Le.x (Le.s (Le.s Le.nil)))))) (fun v_4 k_5 => ⟨_, ge_name, (show Sx P w K _ _ _ _ _ [.d (eI size_0), .d (eI count_0), .ow none ((oL eI) v_4), .d (eI k_5), .u, .u] _ _ from (sx_last (sx_app (i := 2) (xs := List.map eI v_4) rfl (xp_v ep_var) (fun t_6 => (sx_app1 2 (show Sx P w K _ _ _ _ _ [.d (eI size_0), .d (eI count_0), .ow none ((oL eI) (v_4 ++ [t_6])), .d (eI k_5), .u, .u] _ _ from (sx_end (Le.s (Le.s (Le.s (Le.x (Le.s (Le.s Le.nil)))))))))))))⟩) (fun w_7 => (show Sx P w K _ _ _ _ _ [.d (eI size_0), .d (eI count_0), .ow none ((oL eI) w_7), .x, .u, .u] _ _ from (sx_own (xo_v (po_n (np_lst ap_nil))) (fun found_9 => (show Sx P w K _ _ _ _ _ [.d (eI size_0), .d (eI count_0), .ow none ((oL eI) w_7), .x, .ow none ((oL (eT eI)) found_9), .u] _ _ from (sx_freeze 2 rfl rfl (sx_for (eS := (fun (v_11 : (List Int) × (List (List Int))) => [.d (eI size_0), .d (eI count_0), .d ((eL eI) v_11.1), .x, .ow none ((oL (eT eI)) v_11.2), .x])) (v0 := (w_7, found_9)) outO_ok (xi_rng1 (n := fun (a_ : Int × Unit) => a_.1) (xa_v (ds := (fun (a_ : Int × Unit) => [eI a_.1])) (v := (count_0, ())) (ap_cons ep_var ap_nil))) (Le.s (Le.s (Le.s (Le.s (Le.s (Le.x Le.nil)))))) (fun v_11 k_12 => ⟨_, ge_name, (show Sx P w K _ _ _ _ _ [.d (eI size_0), .d (eI count_0), .d ((eL eI) v_11.1), .d (eI k_12), .ow none ((oL (eT eI)) v_11.2), .x] _ _ from (sx_asg (xp_opVV (ep_op (ep_op (ep_op (ep_cb (ap_cons ep_var ap_nil) rl_lenLm) ep_var Pw.r2_I0) ep_var Pw.r2_I0) ep_int Pw.r2_I0) (ep_op ep_var ep_var Pw.r2_I0) rm_div) (fun length_13 => (show Sx P w K _ _ _ _ _ [.d (eI size_0), .d (eI count_0), .d ((eL eI) v_11.1), .d (eI k_12), .ow none ((oL (eT eI)) v_11.2), .d (eI length_13)] _ _ from (sx_app (i := 4) (xs := List.map (eT eI) v_11.2) rfl (xp_tupleL (xp_o (u := (oL eI)) (xo_cutL (xp_v ep_var) qo_none (qo_some ep_var)) (fun _ => rfl))) (fun t_15 => (sx_app1 4 (show Sx P w K _ _ _ _ _ [.d (eI size_0), .d (eI count_0), .d ((eL eI) v_11.1), .d (eI k_12), .ow none ((oL (eT eI)) (v_11.2 ++ [t_15])), .d (eI length_13)] _ _ from (sx_last (sx_asg (xp_o (u := (oL eI)) (xo_cutL (xp_v ep_var) (qo_some ep_var) qo_none) (fun _ => rfl)) (fun rows_17 => (show Sx P w K _ _ _ _ _ [.d (eI size_0), .d (eI count_0), .d ((eL eI) rows_17), .d (eI k_12), .ow none ((oL (eT eI)) (v_11.2 ++ [t_15])), .d (eI length_13)] _ _ from (sx_end (Le.s (Le.s (Le.s (Le.x (Le.s (Le.x Le.nil)))))))))))))))))))⟩) (fun w_18 => (show Sx P w K _ _ _ _ _ [.d (eI size_0), .d (eI count_0), .d ((eL eI) w_18.1), .x, .ow none ((oL (eT eI)) w_18.2), .x] _ _ from (sx_last (sx_retV (i := 4) rfl rfl)))))))))))))))) hr
def b_law_bits_of (draws_0 : Dr) (size_0 : Int) : R (Ctl Unit Unit ((List Int) × Dr)) := (R.bind2 (R.bind2 (R.bind (R.bind (R.ok (size_0, ())) fun t_1 => R.need (-100000 ≤ t_1.1 ∧ t_1.1 ≤ 100000) (R.ok (rangeI 0 (t_1.1).toNat))) fun a_ => R.ok (a_, draws_0)) fun l_ s_3 => (R.lcS l_ s_3 (fun k_2 s_4 => (R.ok (true, s_4))) (fun k_2 s_4 => (R.bind2 (R.bind (R.ok ((2 : Int), ())) fun a_ => R.ok (a_, s_4)) fun t_5 s_6 => R.bind2 (R.nox (m_law_draw s_6 t_5.1)) fun z_ y_ => R.ok (z_, y_)))).nox) fun t_7 s_8 => R.ok (Ctl.rt (t_7, s_8)))
def m_law_bits_of (draws_0 : Dr) (size_0 : Int) : R ((List Int) × Dr) := (b_law_bits_of draws_0 size_0).fin
abbrev M_law_bits_of : Ow → List Dt → Dt → Ow → Prop := RM drO (fun (a_ : Int × Unit) => [eI a_.1]) (fun (v_ : Dr) a_ => m_law_bits_of v_ a_.1) (eT eI)
abbrev s_law_bits_of : Stmt := top 39
abbrev N_law_bits_of : List Str := ["draws", "size", "k"]
theorem sc_law_bits_of : FnScope N_law_bits_of ["draws", "size"] (defScope s_law_bits_of) := ⟨rfl, rfl, rfl, by decide +kernel, rfl, by decide +kernel, by decide +kernel⟩
theorem k_law_bits_of (T : Txt K mg) (D : Dx K mg "_law_bits_of" ["draws", "size"] s_law_bits_of)  (G__law_draw : Fx P w K mg base 1 "_law_draw" ["draws", "limit"] (spM P w K M_law_draw)) : Fx P w K mg base 2 "_law_bits_of" ["draws", "size"] (spM P w K M_law_bits_of) := by
  refine Fx.ofSp D sc_law_bits_of (spM_len (n := 2) fun _ => rfl) fun f cdv A outer s H E hr => ?_
  refine ⟨_, (pss_one (ps_ret (pe_callTy cr_tuple (by rfl) T.f_tuple (by decide +kernel) (pa_cons (pe_lc (own := [("k", 2)]) (g := gName 2) (tt := tYes) rfl sc_law_bits_of.nd (pi_range1 rfl T.f_range (pa_cons (pv 1) pa_nil)) (blkOk_by (N := N_law_bits_of) (sc := defScope s_law_bits_of) (by decide +kernel)) (fun _ _ _ _ _ => (pgn (i := 2) sc_law_bits_of.nd)) (fun _ _ _ _ _ => pts_nil) (fun _ _ _ _ _ => (pe_fx G__law_draw (hr.mono (by decide)) (pa_cons (pv 0) (pa_cons pe_int pa_nil))))) pa_nil)))), ?_⟩
  intro vs Q h
  let en_ : Addr → Dr → En := fun p_ s_ => [.ow (some p_) (drO s_), .x, .x]
  refine run_m (us := drO) (eL := fun _ _ _ (_ : Unit) => []) (eN := fun _ _ _ (_ : Unit) => []) (eX := [.x, .x, .x]) (en := en_) (body := fun v_ a_ => b_law_bits_of v_ a_.1) h (fun _ _ => rfl) (fun _ _ => ⟨_, rfl⟩) fun draws_0 a_ p_ => ?_
  obtain ⟨size_0, _⟩ := a_
  exact (show Sx P w K _ _ _ _ _ [.ow (some p_) (drO draws_0), .d (eI size_0), .u] _ _ from (sx_last (sx_retE (eR := en_ p_) (ye_tupleL (ye_o (u := (oL eI)) (yo_lcS (eb := (fun s_ k_2 => [.ow (some p_) (drO s_), .d (eI size_0), .d (eI k_2)])) (yi_p (en := (fun s_ => [.ow (some p_) (drO s_), .d (eI size_0), .u])) (xi_rng1 (n := fun (a_ : Int × Unit) => a_.1) (xa_v (ds := (fun (a_ : Int × Unit) => [eI a_.1])) (v := (size_0, ())) (ap_cons ep_var ap_nil))) rfl) (fun _ _ _ => rfl) (fun _ _ _ => rfl) (fun _ => noOw_of rfl) (fun _ _ => (Sh.o (Sh.s (Sh.s Sh.nil)))) (fun s_4 k_2 => ⟨gc_name, (yt_yes (en := (fun s_ => [.ow (some p_) (drO s_), .d (eI size_0), .d (eI k_2)])) rfl), (ye_callM (get := fun v => v) (put := fun _ x => x) (ya_p (en := (fun s_ => [.ow (some p_) (drO s_), .d (eI size_0), .d (eI k_2)])) (xa_v (ds := (fun (a_ : Int × Unit) => [eI a_.1])) (v := ((2 : Int), ())) (ap_cons ep_int ap_nil)) rfl) rfl (fun _ => rfl) (fun _ _ => rfl))⟩)) (fun _ => rfl))) (fun s_ => (Le.s (Le.x (Le.x Le.nil)))) (fun _ _ => rfl))))
def b_law_is_bits (value_0 : Dt) (size_0 : Int) : R (Ctl Unit Unit Bool) := (R.bind (R.bind (R.bind (R.need (Pw.tyD value_0).isSome (R.ok (Pw.isTp value_0))) fun t_1 => R.ok (!t_1)) fun t_3 => if t_3 = true then R.ok true else (R.bind (lenDR value_0) fun t_2 => (R.ok (!(decide (t_2 = size_0)))))) fun c_4 => if c_4 = true then (R.bind (R.ok false) fun t_5 => R.ok (Ctl.rt t_5)) else (R.bind (R.ofO ((asT some) value_0)) fun value_6 => (R.bind (R.bind (R.bind (R.bind (R.ok value_6) fun l_12 => (R.lcR l_12 (fun one_7 => (R.bind (R.need (Pw.tyD one_7).isSome (R.ok (Pw.isB one_7))) fun t_11 => if t_11 = true then R.ok true else (R.bind (R.bind (R.need (Pw.tyD one_7).isSome (R.ok (Pw.isI one_7 || Pw.isB one_7))) fun t_8 => R.ok (!t_8)) fun t_10 => if t_10 = true then R.ok true else (R.bind (R.ofO (asI one_7)) fun t_9 => (R.ok (!(decide (t_9 ∈ ([(0 : Int), (1 : Int)] : (List Int)))))))))) (fun one_7 => (R.ok one_7))).nox) fun t_13 => R.ok (t_13.length : Int)) fun t_14 => (R.ok (decide (t_14 = (0 : Int))))) fun t_15 => R.ok (Ctl.rt t_15))))
def m_law_is_bits (value_0 : Dt) (size_0 : Int) : R Bool := (b_law_is_bits value_0 size_0).fin
abbrev R_law_is_bits (K : PySem.W.Frag) : List Dt → Rs → Prop := RF K (fun (a_ : Dt × Int × Unit) => [eD a_.1, eI a_.2.1]) (fun a_ => m_law_is_bits a_.1 a_.2.1) (fun (b_ : Bool) => .d (eB b_))
theorem l_law_is_bits (K : PySem.W.Frag) (ds : List Dt) (r : Rs) (h : R_law_is_bits K ds r) : ds.length = 2 := by
  obtain ⟨_, rfl, _⟩ := h
  rfl
abbrev s_law_is_bits : Stmt := top 40
abbrev N_law_is_bits : List Str := ["value", "size", "one"]
theorem sc_law_is_bits : FnScope N_law_is_bits ["value", "size"] (defScope s_law_is_bits) := ⟨rfl, rfl, rfl, by decide +kernel, rfl, by decide +kernel, by decide +kernel⟩
theorem k_law_is_bits (T : Txt K mg) (D : Dx K mg "_law_is_bits" ["value", "size"] s_law_is_bits)  : Fx P w K mg base 1 "_law_is_bits" ["value", "size"] (spR P w K (R_law_is_bits K)) := by
  refine Fx.of D sc_law_is_bits (l_law_is_bits K) fun f cdv A outer s H E hr => ?_
  refine ⟨_, (pss_cons (ps_if (PW.pt (pw_or (pt_not (pt_val (pe_callB call_isi (by rfl) T.f_isinstance (by decide +kernel) (pa_cons (pv 0) (pa_cons (pe_tyname (n := "tuple") T.f_tuple) pa_nil))))) (pw_or1 (pt_cmpR op_ne (pe_callB cr_len (by rfl) T.f_len PySem.boot_len (pa_cons (pv 0) pa_nil)) (pv 1) (nomark _))))) (pss_one (ps_ret pe_bl)) pss_nil)
      (pss_one (ps_ret (pe_cmpR op_eq (pe_callB cr_len (by rfl) T.f_len PySem.boot_len (pa_cons (pe_lc (own := [("one", 2)]) (g := gName 2) rfl sc_law_is_bits.nd (pi_tup (pv 0)) (blkOk_by (N := N_law_is_bits) (sc := defScope s_law_is_bits) (by decide +kernel)) (fun _ _ _ _ _ => (pgn (i := 2) sc_law_is_bits.nd)) (fun _ _ _ _ _ => (pts_one (PW.pt (pw_or (pt_val (pe_callB (show CallR _ _ (rIsi K) from call_isi) (by rfl) T.f_isinstance (by decide +kernel) (pa_cons (pv 2) (pa_cons (pe_tyname (n := "bool") T.f_bool) pa_nil)))) (pw_or (pt_not (pt_val (pe_callB (show CallR _ _ (rIsi K) from call_isi) (by rfl) T.f_isinstance (by decide +kernel) (pa_cons (pv 2) (pa_cons (pe_tyname (n := "int") T.f_int) pa_nil))))) (pw_or1 (pt_cmpR (show OpR _ _ (rIn K true) from op_notIn_seq) (pv 2) (pe_lst (pa_cons pe_int (pa_cons pe_int pa_nil))) rfl))))))) (fun _ _ _ _ _ => (pv 2))) pa_nil)) pe_int (nomark _))))), ?_⟩
  rintro ds r ⟨⟨value_0, size_0, _⟩, rfl, hr⟩
  exact does_d (eX := [.x, .x, .x]) (d := eB) (eL := fun (_ : Unit) => []) (eN := fun (_ : Unit) => []) (show Sx P w K _ _ _ _ _ [.d (eD value_0), .d (eI size_0), .u] (b_law_is_bits value_0 size_0) _ from (sx_if (xt_or (xt_not (xt_B (xp_isTup ep_var))) (xt_test (xp_opMV (xp_lenD ep_var) ep_var (fun _ => (rm_v Pw.r2_neI))))) (sx_ret (xp_v ep_bl) (fun _ => rfl)) (sx_skip (sx_last (sx_cast (i := 0) (as_tup as_any) rfl (fun value_6 => (show Sx P w K _ _ _ _ _ [.d ((eT eD) value_6), .d (eI size_0), .u] (R.bind (R.bind (R.bind (R.bind (R.ok value_6) fun l_12 => (R.lcR l_12 (fun one_7 => (R.bind (R.need (Pw.tyD one_7).isSome (R.ok (Pw.isB one_7))) fun t_11 => if t_11 = true then R.ok true else (R.bind (R.bind (R.need (Pw.tyD one_7).isSome (R.ok (Pw.isI one_7 || Pw.isB one_7))) fun t_8 => R.ok (!t_8)) fun t_10 => if t_10 = true then R.ok true else (R.bind (R.ofO (asI one_7)) fun t_9 => (R.ok (!(decide (t_9 ∈ ([(0 : Int), (1 : Int)] : (List Int)))))))))) (fun one_7 => (R.ok one_7))).nox) fun t_13 => R.ok (t_13.length : Int)) fun t_14 => (R.ok (decide (t_14 = (0 : Int))))) fun t_15 => R.ok (Ctl.rt t_15)) _ from (sx_ret (xp_opMV (xp_b1 (xp_o (u := (oL eD)) (xo_lc (xi_tup (xp_v ep_var)) (fun one_7 => ⟨_, gc_name, (xt_or (xt_B (xp_isBool ep_var)) (xt_or (xt_not (xt_B (xp_isInt ep_var))) (xt_test (xp_opMV (xp_cast as_int ep_var) (ep_is (e := (eL eI) ([(0 : Int), (1 : Int)] : (List Int))) (ep_lst (ap_cons ep_int (ap_cons ep_int ap_nil)) (Nat.le_of_ble_eq_true rfl)) rfl) (fun _ => (rm_v r2_inILn)))))), (xp_v ep_var)⟩)) (fun _ => rfl)) (fun _ => rl_lenLm)) ep_int (fun _ => (rm_v Pw.r2_eqI))) (fun _ => rfl))))))))) hr
def b_law_due (chains_v_0 : (List (List Int))) (outputs_0 : Int) (size_0 : Int) (log_0 : (List Dt)) : R (Ctl Unit Unit Dt) := (R.bind (R.bind (ixR chains_v_0 (0 : Int)) fun t_1 => R.ok (t_1.length : Int)) fun longest_2 => (R.bind (R.bind (R.ok (decide ((log_0.length : Int) < longest_2))) fun t_4 => if t_4 = true then R.ok true else (R.bind (modR ((log_0.length : Int) - longest_2) (longest_2 + (1 : Int))) fun t_3 => (R.ok (!(decide (t_3 = (0 : Int))))))) fun c_5 => if c_5 = true then (R.bind (R.ok (eS ("refused" : Str))) fun t_6 => R.ok (Ctl.rt t_6)) else (R.bind (R.ok ([] : (List (List Int)))) fun found_8 => (R.bind (R.bind (R.ok ((log_0.length : Int), ())) fun t_9 => R.need (-100000 ≤ t_9.1 ∧ t_9.1 ≤ 100000) (R.ok (rangeI 0 (t_9.1).toNat))) fun l_49 => R.bindC (R.forR l_49 () (fun (v_10 : Unit) k_11 => (R.bind (modR k_11 (longest_2 + (1 : Int))) fun at_12 => (R.bind (R.bind (R.bind (R.bind (ixR log_0 k_11) fun t_15 => R.bind (R.bind (R.ok (if (decide (at_12 = longest_2)) = true then outputs_0 else (chains_v_0.length : Int))) fun t_13 => R.bind (R.ok ()) fun t_14 => R.ok (t_13, t_14)) fun t_16 => R.ok (t_15, t_16)) fun t_17 => (m_law_is_bits t_17.1 t_17.2.1).nox) fun t_18 => R.ok (!t_18)) fun c_19 => if c_19 = true then (R.bind (R.ok (eS ("refused" : Str))) fun t_20 => R.ok (Ctl.rt t_20)) else (R.ok (Ctl.nx ())))))) (fun (w_21 : Unit) => (R.bind (R.ofO ((asL (asT asI)) ((eL eD) log_0))) fun log_22 => (R.bind (R.bind (R.ok (longest_2, ((log_22.length : Int), ((longest_2 + (1 : Int)), ())))) fun t_23 => rng3R t_23.1 t_23.2.1 t_23.2.2.1) fun l_48 => R.bindC (R.forR l_48 found_8 (fun (v_24 : (List (List Int))) k_25 => (R.bind (R.bind (R.ok size_0) fun t_27 => repLR ([(0 : Int)] : (List Int)) t_27) fun taken_28 => (R.bind (R.bind (R.ok ((chains_v_0.length : Int), ())) fun t_29 => R.need (-100000 ≤ t_29.1 ∧ t_29.1 ≤ 100000) (R.ok (rangeI 0 (t_29.1).toNat))) fun l_45 => R.bindC (R.forR l_45 taken_28 (fun (v_30 : (List Int)) j_31 => (R.bind (ixR chains_v_0 j_31) fun row_32 => (R.bind (R.bind (R.ok ((row_32.length : Int), ())) fun t_33 => R.need (-100000 ≤ t_33.1 ∧ t_33.1 ≤ 100000) (R.ok (rangeI 0 (t_33.1).toNat))) fun l_41 => R.bindC (R.forR l_41 v_30 (fun (v_34 : (List Int)) n_35 => (R.bind (R.bind (ixR log_22 ((k_25 + (1 : Int)) + n_35)) fun t_36 => (ixR t_36 j_31)) fun t_37 => R.bind (ixR row_32 (((row_32.length : Int) - (1 : Int)) - n_35)) fun t_38 => R.bind (setR v_34 t_38 t_37) fun taken_39 => (R.ok (Ctl.nx taken_39))))) (fun (w_40 : (List Int)) => (R.ok (Ctl.nx w_40))))))) (fun (w_42 : (List Int)) => (R.bind (R.bind (ixR log_22 k_25) fun t_43 => (catR t_43 w_42)) fun t_44 => R.need ((List.map (eT eI) v_24).length < 100000) (R.ok (Ctl.nx (v_24 ++ [t_44]))))))))) (fun (w_46 : (List (List Int))) => (R.bind (R.ok ((eL (eT eI)) w_46)) fun t_47 => R.ok (Ctl.rt t_47))))))))))
def m_law_due (chains_v_0 : (List (List Int))) (outputs_0 : Int) (size_0 : Int) (log_0 : (List Dt)) : R Dt := (b_law_due chains_v_0 outputs_0 size_0 log_0).fin
abbrev R_law_due (K : PySem.W.Frag) : List Dt → Rs → Prop := RF K (fun (a_ : (List (List Int)) × Int × Int × (List Dt) × Unit) => [(eL (eT eI)) a_.1, eI a_.2.1, eI a_.2.2.1, (eL eD) a_.2.2.2.1]) (fun a_ => m_law_due a_.1 a_.2.1 a_.2.2.1 a_.2.2.2.1) (fun (b_ : Dt) => .d (eD b_))
theorem l_law_due (K : PySem.W.Frag) (ds : List Dt) (r : Rs) (h : R_law_due K ds r) : ds.length = 4 := by
  obtain ⟨_, rfl, _⟩ := h
  rfl
abbrev s_law_due : Stmt := top 41
abbrev N_law_due : List Str := ["chains_v", "outputs", "size", "log", "longest", "found", "k", "at", "taken", "j", "row", "n"]
theorem sc_law_due : FnScope N_law_due ["chains_v", "outputs", "size", "log"] (defScope s_law_due) := ⟨rfl, rfl, rfl, by decide +kernel, rfl, by decide +kernel, by decide +kernel⟩
theorem k_law_due (T : Txt K mg) (D : Dx K mg "_law_due" ["chains_v", "outputs", "size", "log"] s_law_due)  (G__law_is_bits : Fx P w K mg base 1 "_law_is_bits" ["value", "size"] (spR P w K (R_law_is_bits K))) : Fx P w K mg base 2 "_law_due" ["chains_v", "outputs", "size", "log"] (spR P w K (R_law_due K)) := by
  refine Fx.of D sc_law_due (l_law_due K) fun f cdv A outer s H E hr => ?_
  refine ⟨_, (pss_cons (pset (i := 4) sc_law_due.nd (pe_callB cr_len (by rfl) T.f_len PySem.boot_len (pa_cons (pe_ix ix_list (pv 0) pe_int (fun _ _ => rfl)) pa_nil)))
      (pss_cons (ps_if (PW.pt (pw_or (pt_cmpR op_lt (pe_callB cr_len (by rfl) T.f_len PySem.boot_len (pa_cons (pv 3) pa_nil)) (pv 4) (nomark _)) (pw_or1 (pt_cmpR op_ne (pe_op op_mod (pe_callTy cr_int (by rfl) T.f_int (by decide +kernel) (pa_cons (pe_op op_sub (pe_callB cr_len (by rfl) T.f_len PySem.boot_len (pa_cons (pv 3) pa_nil)) (pv 4)) pa_nil)) (pe_op op_add (pv 4) pe_int)) pe_int (nomark _))))) (pss_one (ps_ret pe_str)) pss_nil)
      (pss_cons (pset (i := 5) sc_law_due.nd (pe_lst pa_nil))
      (pss_cons (ps_for PassesOwn.never rfl (pi_range1 rfl T.f_range (pa_cons (pe_callB cr_len (by rfl) T.f_len PySem.boot_len (pa_cons (pv 3) pa_nil)) pa_nil)) (pgn (i := 6) sc_law_due.nd)
      (pss_cons (pset (i := 7) sc_law_due.nd (pe_op op_mod (pe_callTy cr_int (by rfl) T.f_int (by decide +kernel) (pa_cons (pv 6) pa_nil)) (pe_op op_add (pv 4) pe_int)))
      (pss_one (ps_if (pt_not (pt_val (pe_fx G__law_is_bits (hr.mono (by decide)) (pa_cons (pe_ix ix_list (pv 3) (pv 6) (fun _ _ => rfl)) (pa_cons (pe_ifExp (pt_cmpR op_eq (pv 7) (pv 4) (nomark _)) (pv 1) (pe_callB cr_len (by rfl) T.f_len PySem.boot_len (pa_cons (pv 0) pa_nil))) pa_nil))))) (pss_one (ps_ret pe_str)) pss_nil))))
      (pss_cons (ps_for PassesOwn.never rfl (pi_range3 rfl T.f_range (pa_cons (pv 4) (pa_cons (pe_callB cr_len (by rfl) T.f_len PySem.boot_len (pa_cons (pv 3) pa_nil)) (pa_cons (pe_op op_add (pv 4) pe_int) pa_nil)))) (pgn (i := 6) sc_law_due.nd)
      (pss_cons (pset (i := 8) sc_law_due.nd (pe_op op_rep (pe_lst (pa_cons pe_int pa_nil)) (pv 2)))
      (pss_cons (ps_for PassesOwn.never rfl (pi_range1 rfl T.f_range (pa_cons (pe_callB cr_len (by rfl) T.f_len PySem.boot_len (pa_cons (pv 0) pa_nil)) pa_nil)) (pgn (i := 9) sc_law_due.nd)
      (pss_cons (pset (i := 10) sc_law_due.nd (pe_ix ix_list (pv 0) (pv 9) (fun _ _ => rfl)))
      (pss_one (ps_for PassesOwn.never rfl (pi_range1 rfl T.f_range (pa_cons (pe_callB cr_len (by rfl) T.f_len PySem.boot_len (pa_cons (pv 10) pa_nil)) pa_nil)) (pgn (i := 11) sc_law_due.nd)
      (pss_one (ps_asg (pe_ix ix_tup (pe_ix ix_list (pv 3) (pe_op op_add (pe_op op_add (pv 6) pe_int) (pv 11)) (fun _ _ => rfl)) (pv 9) (fun _ _ => rfl)) (pg_sub (pv 8) (pe_ix ix_tup (pv 10) (pe_op op_sub (pe_op op_sub (pe_callB cr_len (by rfl) T.f_len PySem.boot_len (pa_cons (pv 10) pa_nil)) pe_int) (pv 11)) (fun _ _ => rfl)) set_list)))))))
      (pss_one (ps_expr (pe_bm PySem.F.plainAttrs_list PySem.F.slot_list_append PySem.F.type_list_append mt_append (pv 5) (pa_cons (pe_op op_catA (pe_ix ix_list (pv 3) (pv 6) (fun _ _ => rfl)) (pe_callTy cr_tuple (by rfl) T.f_tuple (by decide +kernel) (pa_cons (pv 8) pa_nil))) pa_nil)))))))
      (pss_one (ps_ret (pv 5)))))))), ?_⟩
  rintro ds r ⟨⟨chains_v_0, outputs_0, size_0, log_0, _⟩, rfl, hr⟩
  exact does_d (eX := [.x, .x, .x, .x, .x, .x, .x, .x, .x, .x, .x, .x]) (d := eD) (eL := fun (_ : Unit) => []) (eN := fun (_ : Unit) => []) (show Sx P w K _ _ _ _ _ [.d ((eL (eT eI)) chains_v_0), .d (eI outputs_0), .d (eI size_0), .d ((eL eD) log_0), .u, .u, .u, .u, .u, .u, .u, .u] (b_law_due chains_v_0 outputs_0 size_0 log_0) _ from (sx_asg (xp_b1 (xp_opVV ep_var ep_int rm_ixL) (fun _ => rl_lenTm)) (fun longest_2 => (show Sx P w K _ _ _ _ _ [.d ((eL (eT eI)) chains_v_0), .d (eI outputs_0), .d (eI size_0), .d ((eL eD) log_0), .d (eI longest_2), .u, .u, .u, .u, .u, .u, .u] _ _ from (sx_if (xt_or (xt_v (tp_test (ep_op (ep_cb (ap_cons ep_var ap_nil) rl_lenLm) ep_var Pw.r2_B0))) (xt_test (xp_opMV (xp_opVV (ep_cb (ap_cons (ep_op (ep_cb (ap_cons ep_var ap_nil) rl_lenLm) ep_var Pw.r2_I0) ap_nil) Pw.rl_int) (ep_op ep_var ep_int Pw.r2_I0) rm_mod) ep_int (fun _ => (rm_v Pw.r2_neI))))) (sx_ret (xp_v ep_str) (fun _ => rfl)) (sx_skip (sx_own (xo_v (po_n (np_lst ap_nil))) (fun found_8 => (show Sx P w K _ _ _ _ _ [.d ((eL (eT eI)) chains_v_0), .d (eI outputs_0), .d (eI size_0), .d ((eL eD) log_0), .d (eI longest_2), .ow none ((oL (eT eI)) found_8), .u, .u, .u, .u, .u, .u] _ _ from (sx_for (eS := (fun (v_10 : Unit) => [.d ((eL (eT eI)) chains_v_0), .d (eI outputs_0), .d (eI size_0), .d ((eL eD) log_0), .d (eI longest_2), .ow none ((oL (eT eI)) found_8), .x, .x, .u, .u, .u, .u])) (v0 := ()) outD_ok (xi_rng1 (n := fun (a_ : Int × Unit) => a_.1) (xa_v (ds := (fun (a_ : Int × Unit) => [eI a_.1])) (v := ((log_0.length : Int), ())) (ap_cons (ep_cb (ap_cons ep_var ap_nil) rl_lenLm) ap_nil))) (Le.s (Le.s (Le.s (Le.s (Le.s (Le.s (Le.x (Le.x (Le.s (Le.s (Le.s (Le.s Le.nil)))))))))))) (fun v_10 k_11 => ⟨_, ge_name, (show Sx P w K _ _ _ _ _ [.d ((eL (eT eI)) chains_v_0), .d (eI outputs_0), .d (eI size_0), .d ((eL eD) log_0), .d (eI longest_2), .ow none ((oL (eT eI)) found_8), .d (eI k_11), .x, .u, .u, .u, .u] _ _ from (sx_asg (xp_opVV (ep_cb (ap_cons ep_var ap_nil) Pw.rl_int) (ep_op ep_var ep_int Pw.r2_I0) rm_mod) (fun at_12 => (show Sx P w K _ _ _ _ _ [.d ((eL (eT eI)) chains_v_0), .d (eI outputs_0), .d (eI size_0), .d ((eL eD) log_0), .d (eI longest_2), .ow none ((oL (eT eI)) found_8), .d (eI k_11), .d (eI at_12), .u, .u, .u, .u] _ _ from (sx_last (sx_if (xt_not (xt_B (xp_call (xa_consM (da := eD) (xp_opVV ep_var ep_var (by first | exact rm_ixD | exact rm_ixL)) (xa_consM (da := eI) (xp_v (ep_ifV (tp_test (ep_op ep_var ep_var Pw.r2_eqI)) ep_var (ep_cb (ap_cons ep_var ap_nil) rl_lenLm))) xa_nil)) (fun _ => rfl)))) (sx_ret (xp_v ep_str) (fun _ => rfl)) (sx_skip (sx_end (Le.s (Le.s (Le.s (Le.s (Le.s (Le.s (Le.x (Le.x (Le.s (Le.s (Le.s (Le.s Le.nil))))))))))))))))))))⟩) (fun w_21 => (show Sx P w K _ _ _ _ _ [.d ((eL (eT eI)) chains_v_0), .d (eI outputs_0), .d (eI size_0), .d ((eL eD) log_0), .d (eI longest_2), .ow none ((oL (eT eI)) found_8), .x, .x, .u, .u, .u, .u] _ _ from (sx_cast (i := 3) (as_list (as_tup as_int)) rfl (fun log_22 => (show Sx P w K _ _ _ _ _ [.d ((eL (eT eI)) chains_v_0), .d (eI outputs_0), .d (eI size_0), .d ((eL (eT eI)) log_22), .d (eI longest_2), .ow none ((oL (eT eI)) found_8), .x, .x, .u, .u, .u, .u] (R.bind (R.bind (R.ok (longest_2, ((log_22.length : Int), ((longest_2 + (1 : Int)), ())))) fun t_23 => rng3R t_23.1 t_23.2.1 t_23.2.2.1) fun l_48 => R.bindC (R.forR l_48 found_8 (fun (v_24 : (List (List Int))) k_25 => (R.bind (R.bind (R.ok size_0) fun t_27 => repLR ([(0 : Int)] : (List Int)) t_27) fun taken_28 => (R.bind (R.bind (R.ok ((chains_v_0.length : Int), ())) fun t_29 => R.need (-100000 ≤ t_29.1 ∧ t_29.1 ≤ 100000) (R.ok (rangeI 0 (t_29.1).toNat))) fun l_45 => R.bindC (R.forR l_45 taken_28 (fun (v_30 : (List Int)) j_31 => (R.bind (ixR chains_v_0 j_31) fun row_32 => (R.bind (R.bind (R.ok ((row_32.length : Int), ())) fun t_33 => R.need (-100000 ≤ t_33.1 ∧ t_33.1 ≤ 100000) (R.ok (rangeI 0 (t_33.1).toNat))) fun l_41 => R.bindC (R.forR l_41 v_30 (fun (v_34 : (List Int)) n_35 => (R.bind (R.bind (ixR log_22 ((k_25 + (1 : Int)) + n_35)) fun t_36 => (ixR t_36 j_31)) fun t_37 => R.bind (ixR row_32 (((row_32.length : Int) - (1 : Int)) - n_35)) fun t_38 => R.bind (setR v_34 t_38 t_37) fun taken_39 => (R.ok (Ctl.nx taken_39))))) (fun (w_40 : (List Int)) => (R.ok (Ctl.nx w_40))))))) (fun (w_42 : (List Int)) => (R.bind (R.bind (ixR log_22 k_25) fun t_43 => (catR t_43 w_42)) fun t_44 => R.need ((List.map (eT eI) v_24).length < 100000) (R.ok (Ctl.nx (v_24 ++ [t_44]))))))))) (fun (w_46 : (List (List Int))) => (R.bind (R.ok ((eL (eT eI)) w_46)) fun t_47 => R.ok (Ctl.rt t_47)))) _ from (sx_for (eS := (fun (v_24 : (List (List Int))) => [.d ((eL (eT eI)) chains_v_0), .d (eI outputs_0), .d (eI size_0), .d ((eL (eT eI)) log_22), .d (eI longest_2), .ow none ((oL (eT eI)) v_24), .x, .x, .x, .x, .x, .x])) (v0 := found_8) outD_ok (xi_rng3 (a := fun (a_ : Int × Int × Int × Unit) => a_.1) (b := fun (a_ : Int × Int × Int × Unit) => a_.2.1) (c := fun (a_ : Int × Int × Int × Unit) => a_.2.2.1) (xa_v (ds := (fun (a_ : Int × Int × Int × Unit) => [eI a_.1, eI a_.2.1, eI a_.2.2.1])) (v := (longest_2, ((log_22.length : Int), ((longest_2 + (1 : Int)), ())))) (ap_cons ep_var (ap_cons (ep_cb (ap_cons ep_var ap_nil) rl_lenLm) (ap_cons (ep_op ep_var ep_int Pw.r2_I0) ap_nil))))) (Le.s (Le.s (Le.s (Le.s (Le.s (Le.s (Le.s (Le.s (Le.x (Le.x (Le.x (Le.x Le.nil)))))))))))) (fun v_24 k_25 => ⟨_, ge_name, (show Sx P w K _ _ _ _ _ [.d ((eL (eT eI)) chains_v_0), .d (eI outputs_0), .d (eI size_0), .d ((eL (eT eI)) log_22), .d (eI longest_2), .ow none ((oL (eT eI)) v_24), .d (eI k_25), .x, .x, .x, .x, .x] _ _ from (sx_own (xo_rep (e := eI) (xs := ([(0 : Int)] : (List Int))) (po_n (np_lst (ap_cons ep_int ap_nil))) (xp_v ep_var)) (fun taken_28 => (show Sx P w K _ _ _ _ _ [.d ((eL (eT eI)) chains_v_0), .d (eI outputs_0), .d (eI size_0), .d ((eL (eT eI)) log_22), .d (eI longest_2), .ow none ((oL (eT eI)) v_24), .d (eI k_25), .x, .ow none ((oL eI) taken_28), .x, .x, .x] _ _ from (sx_for (eS := (fun (v_30 : (List Int)) => [.d ((eL (eT eI)) chains_v_0), .d (eI outputs_0), .d (eI size_0), .d ((eL (eT eI)) log_22), .d (eI longest_2), .ow none ((oL (eT eI)) v_24), .d (eI k_25), .x, .ow none ((oL eI) v_30), .x, .x, .x])) (v0 := taken_28) outD_ok (xi_rng1 (n := fun (a_ : Int × Unit) => a_.1) (xa_v (ds := (fun (a_ : Int × Unit) => [eI a_.1])) (v := ((chains_v_0.length : Int), ())) (ap_cons (ep_cb (ap_cons ep_var ap_nil) rl_lenLm) ap_nil))) (Le.s (Le.s (Le.s (Le.s (Le.s (Le.s (Le.s (Le.s (Le.s (Le.s (Le.s (Le.s Le.nil)))))))))))) (fun v_30 j_31 => ⟨_, ge_name, (show Sx P w K _ _ _ _ _ [.d ((eL (eT eI)) chains_v_0), .d (eI outputs_0), .d (eI size_0), .d ((eL (eT eI)) log_22), .d (eI longest_2), .ow none ((oL (eT eI)) v_24), .d (eI k_25), .x, .ow none ((oL eI) v_30), .d (eI j_31), .x, .x] _ _ from (sx_asg (xp_opVV ep_var ep_var rm_ixL) (fun row_32 => (show Sx P w K _ _ _ _ _ [.d ((eL (eT eI)) chains_v_0), .d (eI outputs_0), .d (eI size_0), .d ((eL (eT eI)) log_22), .d (eI longest_2), .ow none ((oL (eT eI)) v_24), .d (eI k_25), .x, .ow none ((oL eI) v_30), .d (eI j_31), .d ((eT eI) row_32), .x] _ _ from (sx_last (sx_for (eS := (fun (v_34 : (List Int)) => [.d ((eL (eT eI)) chains_v_0), .d (eI outputs_0), .d (eI size_0), .d ((eL (eT eI)) log_22), .d (eI longest_2), .ow none ((oL (eT eI)) v_24), .d (eI k_25), .x, .ow none ((oL eI) v_34), .d (eI j_31), .d ((eT eI) row_32), .x])) (v0 := v_30) outD_ok (xi_rng1 (n := fun (a_ : Int × Unit) => a_.1) (xa_v (ds := (fun (a_ : Int × Unit) => [eI a_.1])) (v := ((row_32.length : Int), ())) (ap_cons (ep_cb (ap_cons ep_var ap_nil) rl_lenTm) ap_nil))) (Le.s (Le.s (Le.s (Le.s (Le.s (Le.s (Le.s (Le.s (Le.s (Le.s (Le.s (Le.s Le.nil)))))))))))) (fun v_34 n_35 => ⟨_, ge_name, (show Sx P w K _ _ _ _ _ [.d ((eL (eT eI)) chains_v_0), .d (eI outputs_0), .d (eI size_0), .d ((eL (eT eI)) log_22), .d (eI longest_2), .ow none ((oL (eT eI)) v_24), .d (eI k_25), .x, .ow none ((oL eI) v_34), .d (eI j_31), .d ((eT eI) row_32), .d (eI n_35)] _ _ from (sx_last (sx_setL (i := 8) rfl (xp_opMV (xp_opVV ep_var (ep_op (ep_op ep_var ep_int Pw.r2_I0) ep_var Pw.r2_I0) rm_ixL) ep_var (fun _ => rm_ixT)) (xp_opVV ep_var (ep_op (ep_op (ep_cb (ap_cons ep_var ap_nil) rl_lenTm) ep_int Pw.r2_I0) ep_var Pw.r2_I0) rm_ixT) (fun taken_39 => (show Sx P w K _ _ _ _ _ [.d ((eL (eT eI)) chains_v_0), .d (eI outputs_0), .d (eI size_0), .d ((eL (eT eI)) log_22), .d (eI longest_2), .ow none ((oL (eT eI)) v_24), .d (eI k_25), .x, .ow none ((oL eI) taken_39), .d (eI j_31), .d ((eT eI) row_32), .d (eI n_35)] _ _ from (sx_end (Le.s (Le.s (Le.s (Le.s (Le.s (Le.s (Le.s (Le.s (Le.s (Le.s (Le.s (Le.x Le.nil))))))))))))))))))⟩) (fun w_40 => (show Sx P w K _ _ _ _ _ [.d ((eL (eT eI)) chains_v_0), .d (eI outputs_0), .d (eI size_0), .d ((eL (eT eI)) log_22), .d (eI longest_2), .ow none ((oL (eT eI)) v_24), .d (eI k_25), .x, .ow none ((oL eI) w_40), .d (eI j_31), .d ((eT eI) row_32), .x] _ _ from (sx_end (Le.s (Le.s (Le.s (Le.s (Le.s (Le.s (Le.s (Le.s (Le.s (Le.x (Le.x (Le.s Le.nil)))))))))))))))))))))⟩) (fun w_42 => (show Sx P w K _ _ _ _ _ [.d ((eL (eT eI)) chains_v_0), .d (eI outputs_0), .d (eI size_0), .d ((eL (eT eI)) log_22), .d (eI longest_2), .ow none ((oL (eT eI)) v_24), .d (eI k_25), .x, .ow none ((oL eI) w_42), .x, .x, .x] _ _ from (sx_last (sx_app (i := 5) (xs := List.map (eT eI) v_24) rfl (xp_opMV (xp_opVV ep_var ep_var rm_ixL) (ep_tupleO (i := 8) rfl) (fun _ => rm_catT)) (fun t_44 => (sx_app1 5 (show Sx P w K _ _ _ _ _ [.d ((eL (eT eI)) chains_v_0), .d (eI outputs_0), .d (eI size_0), .d ((eL (eT eI)) log_22), .d (eI longest_2), .ow none ((oL (eT eI)) (v_24 ++ [t_44])), .d (eI k_25), .x, .ow none ((oL eI) w_42), .x, .x, .x] _ _ from (sx_end (Le.s (Le.s (Le.s (Le.s (Le.s (Le.s (Le.x (Le.s (Le.x (Le.s (Le.s (Le.s Le.nil)))))))))))))))))))))))))⟩) (fun w_46 => (show Sx P w K _ _ _ _ _ [.d ((eL (eT eI)) chains_v_0), .d (eI outputs_0), .d (eI size_0), .d ((eL (eT eI)) log_22), .d (eI longest_2), .ow none ((oL (eT eI)) w_46), .x, .x, .x, .x, .x, .x] _ _ from (sx_last (sx_freeze 5 rfl rfl (sx_ret (xp_v ep_var) (fun _ => rfl)))))))))))))))))))))) hr
def b_law_changed (draws_0 : Dr) (log_0 : (List Dt)) : R (Ctl Unit Unit ((List Dt) × Dr)) := (R.bind2 (R.bind2 (R.bind (R.ok (((log_0.length : Int) + (1 : Int)), ())) fun a_ => R.ok (a_, draws_0)) fun t_1 s_2 => R.bind2 (R.nox (m_law_draw s_2 t_1.1)) fun z_ y_ => R.ok (z_, y_)) fun at_3 s_4 => (R.bind (R.bind (R.ok (decide (at_3 < (log_0.length : Int)))) fun t_5 => if t_5 = true then (ixR log_0 at_3) else (R.ok ((eT eI) ([(1 : Int)] : (List Int))))) fun entry_6 => (R.bind (R.ofO ((asT asI) entry_6)) fun entry_7 => (R.bind2 (R.bind2 (R.bind (R.ok ((8 : Int), ())) fun a_ => R.ok (a_, s_4)) fun t_8 s_9 => R.bind2 (R.nox (m_law_draw s_9 t_8.1)) fun z_ y_ => R.ok (z_, y_)) fun kind_10 s_11 => (R.bind (R.ok (decide (kind_10 = (0 : Int)))) fun c_12 => if c_12 = true then (R.bind2 (R.bind (R.bind (R.bind (R.ok log_0) fun t_13 => R.ok (cutR t_13 none (some at_3))) fun t_15 => R.bind (R.bind (R.ok log_0) fun t_14 => R.ok (cutR t_14 (some (at_3 + (1 : Int))) none)) fun t_16 => (catR t_15 t_16)) fun a_ => R.ok (a_, s_11)) fun t_17 s_18 => R.ok (Ctl.rt (t_17, s_18))) else (R.bind (R.ok (decide (kind_10 = (1 : Int)))) fun c_19 => if c_19 = true then (R.bind2 (R.bind (R.bind (R.bind (R.bind (R.ok log_0) fun t_20 => R.ok (cutR t_20 none (some at_3))) fun t_21 => (catR t_21 ([((eT eI) entry_7)] : (List Dt)))) fun t_23 => R.bind (R.bind (R.ok log_0) fun t_22 => R.ok (cutR t_22 (some at_3) none)) fun t_24 => (catR t_23 t_24)) fun a_ => R.ok (a_, s_11)) fun t_25 s_26 => R.ok (Ctl.rt (t_25, s_26))) else (R.bind (R.bind (R.bind (R.bind (catR entry_7 ([(0 : Int)] : (List Int))) fun t_43 => R.ok ((eT eI) t_43)) fun t_57 => R.bind (R.bind (R.ok ((eT eI) (cutR entry_7 none (some (-1 : Int))))) fun t_55 => R.bind (R.bind (R.bind (R.ok entry_7) fun t_44 => R.ok ((eL eI) t_44)) fun t_53 => R.bind (R.bind (R.ok (eU ())) fun t_51 => R.bind (R.bind (R.bind (catR (cutR entry_7 none (some (-1 : Int))) ([(2 : Int)] : (List Int))) fun t_45 => R.ok ((eT eI) t_45)) fun t_49 => R.bind (R.bind (R.bind (catR (List.map eI (cutR entry_7 none (some (-1 : Int)))) ([(eB true)] : (List Dt))) fun t_46 => R.ok ((eT eD) t_46)) fun t_47 => R.bind (R.ok ()) fun t_48 => R.ok (t_47, t_48)) fun t_50 => R.ok (t_49, t_50)) fun t_52 => R.ok (t_51, t_52)) fun t_54 => R.ok (t_53, t_54)) fun t_56 => R.ok (t_55, t_56)) fun t_58 => R.ok (t_57, t_58)) fun t_59 => R.ok ([t_59.1, t_59.2.1, t_59.2.2.1, t_59.2.2.2.1, t_59.2.2.2.2.1, t_59.2.2.2.2.2.1] : (List Dt))) fun wrong_60 => (R.bind2 (R.bind (R.bind (R.bind (R.bind (R.ok log_0) fun t_61 => R.ok (cutR t_61 none (some at_3))) fun t_67 => R.bind (R.bind (R.bind (ixR wrong_60 (kind_10 - (2 : Int))) fun t_64 => R.bind (R.ok ()) fun t_65 => R.ok (t_64, t_65)) fun t_66 => R.ok ([t_66.1] : (List Dt))) fun t_68 => (catR t_67 t_68)) fun t_70 => R.bind (R.bind (R.ok log_0) fun t_69 => R.ok (cutR t_69 (some (at_3 + (1 : Int))) none)) fun t_71 => (catR t_70 t_71)) fun a_ => R.ok (a_, s_11)) fun t_72 s_73 => R.ok (Ctl.rt (t_72, s_73))))))))))
def m_law_changed (draws_0 : Dr) (log_0 : (List Dt)) : R ((List Dt) × Dr) := (b_law_changed draws_0 log_0).fin
abbrev M_law_changed : Ow → List Dt → Dt → Ow → Prop := RM drO (fun (a_ : (List Dt) × Unit) => [(eL eD) a_.1]) (fun (v_ : Dr) a_ => m_law_changed v_ a_.1) (eL eD)
abbrev s_law_changed : Stmt := top 42
abbrev N_law_changed : List Str := ["draws", "log", "at", "entry", "kind", "wrong"]
theorem sc_law_changed : FnScope N_law_changed ["draws", "log"] (defScope s_law_changed) := ⟨rfl, rfl, rfl, by decide +kernel, rfl, by decide +kernel, by decide +kernel⟩
theorem k_law_changed (T : Txt K mg) (D : Dx K mg "_law_changed" ["draws", "log"] s_law_changed)  (G__law_draw : Fx P w K mg base 1 "_law_draw" ["draws", "limit"] (spM P w K M_law_draw)) : Fx P w K mg base 2 "_law_changed" ["draws", "log"] (spM P w K M_law_changed) := by
  refine Fx.ofSp D sc_law_changed (spM_len (n := 2) fun _ => rfl) fun f cdv A outer s H E hr => ?_
  refine ⟨_, (pss_cons (pset (i := 2) sc_law_changed.nd (pe_fx G__law_draw (hr.mono (by decide)) (pa_cons (pv 0) (pa_cons (pe_op op_add (pe_callB cr_len (by rfl) T.f_len PySem.boot_len (pa_cons (pv 1) pa_nil)) pe_int) pa_nil))))
      (pss_cons (pset (i := 3) sc_law_changed.nd (pe_ifExp (pt_cmpR op_lt (pv 2) (pe_callB cr_len (by rfl) T.f_len PySem.boot_len (pa_cons (pv 1) pa_nil)) (nomark _)) (pe_ix ix_list (pv 1) (pv 2) (fun _ _ => rfl)) (pe_tup (pa_cons pe_int pa_nil))))
      (pss_cons (pset (i := 4) sc_law_changed.nd (pe_fx G__law_draw (hr.mono (by decide)) (pa_cons (pv 0) (pa_cons pe_int pa_nil))))
      (pss_cons (ps_if (pt_cmpR op_eq (pv 4) pe_int (nomark _)) (pss_one (ps_ret (pe_op op_catS (pe_slice sl_list (pv 1) po_none (po_some (pv 2))) (pe_slice sl_list (pv 1) (po_some (pe_op op_add (pv 2) pe_int)) po_none)))) pss_nil)
      (pss_cons (ps_if (pt_cmpR op_eq (pv 4) pe_int (nomark _)) (pss_one (ps_ret (pe_op op_catS (pe_op op_catS (pe_slice sl_list (pv 1) po_none (po_some (pv 2))) (pe_lst (pa_cons (pv 3) pa_nil))) (pe_slice sl_list (pv 1) (po_some (pv 2)) po_none)))) pss_nil)
      (pss_cons (pset (i := 5) sc_law_changed.nd (pe_lst (pa_cons (pe_op op_catA (pv 3) (pe_tup (pa_cons pe_int pa_nil))) (pa_cons (pe_slice sl_tupA (pv 3) po_none (po_some (pe_un un_neg pe_int))) (pa_cons (pe_callTy cr_list (by rfl) T.f_list (by decide +kernel) (pa_cons (pv 3) pa_nil)) (pa_cons pe_non (pa_cons (pe_op op_catA (pe_slice sl_tupA (pv 3) po_none (po_some (pe_un un_neg pe_int))) (pe_tup (pa_cons pe_int pa_nil))) (pa_cons (pe_op op_catA (pe_slice sl_tupA (pv 3) po_none (po_some (pe_un un_neg pe_int))) (pe_tup (pa_cons pe_bl pa_nil))) pa_nil))))))))
      (pss_one (ps_ret (pe_op op_catS (pe_op op_catS (pe_slice sl_list (pv 1) po_none (po_some (pv 2))) (pe_lst (pa_cons (pe_ix ix_list (pv 5) (pe_op op_sub (pv 4) pe_int) (fun _ _ => rfl)) pa_nil))) (pe_slice sl_list (pv 1) (po_some (pe_op op_add (pv 2) pe_int)) po_none)))))))))), ?_⟩
  intro vs Q h
  let en_ : Addr → Dr → En := fun p_ s_ => [.ow (some p_) (drO s_), .x, .x, .x, .x, .x]
  refine run_m (us := drO) (eL := fun _ _ _ (_ : Unit) => []) (eN := fun _ _ _ (_ : Unit) => []) (eX := [.x, .x, .x, .x, .x, .x]) (en := en_) (body := fun v_ a_ => b_law_changed v_ a_.1) h (fun _ _ => rfl) (fun _ _ => ⟨_, rfl⟩) fun draws_0 a_ p_ => ?_
  obtain ⟨log_0, _⟩ := a_
  exact (show Sx P w K _ _ _ _ _ [.ow (some p_) (drO draws_0), .d ((eL eD) log_0), .u, .u, .u, .u] _ _ from (sx_asgY (ye_callM (get := fun v => v) (put := fun _ x => x) (ya_p (en := (fun s_ => [.ow (some p_) (drO s_), .d ((eL eD) log_0), .u, .u, .u, .u])) (xa_v (ds := (fun (a_ : Int × Unit) => [eI a_.1])) (v := (((log_0.length : Int) + (1 : Int)), ())) (ap_cons (ep_op (ep_cb (ap_cons ep_var ap_nil) rl_lenLm) ep_int Pw.r2_I0) ap_nil)) rfl) rfl (fun _ => rfl) (fun _ _ => rfl)) (fun at_3 s_4 => (show Sx P w K _ _ _ _ _ [.ow (some p_) (drO s_4), .d ((eL eD) log_0), .d (eI at_3), .u, .u, .u] _ _ from (sx_asg (xp_if (xt_v (tp_test (ep_op ep_var (ep_cb (ap_cons ep_var ap_nil) rl_lenLm) Pw.r2_B0))) (xp_opVV ep_var ep_var (by first | exact rm_ixD | exact rm_ixL)) (xp_v (ep_is (e := (eT eI) ([(1 : Int)] : (List Int))) (ep_tup (ap_cons ep_int ap_nil) (Nat.le_of_ble_eq_true rfl)) rfl))) (fun entry_6 => (show Sx P w K _ _ _ _ _ [.ow (some p_) (drO s_4), .d ((eL eD) log_0), .d (eI at_3), .d (eD entry_6), .u, .u] _ _ from (sx_cast (i := 3) (as_tup as_int) rfl (fun entry_7 => (show Sx P w K _ _ _ _ _ [.ow (some p_) (drO s_4), .d ((eL eD) log_0), .d (eI at_3), .d ((eT eI) entry_7), .u, .u] (R.bind2 (R.bind2 (R.bind (R.ok ((8 : Int), ())) fun a_ => R.ok (a_, s_4)) fun t_8 s_9 => R.bind2 (R.nox (m_law_draw s_9 t_8.1)) fun z_ y_ => R.ok (z_, y_)) fun kind_10 s_11 => (R.bind (R.ok (decide (kind_10 = (0 : Int)))) fun c_12 => if c_12 = true then (R.bind2 (R.bind (R.bind (R.bind (R.ok log_0) fun t_13 => R.ok (cutR t_13 none (some at_3))) fun t_15 => R.bind (R.bind (R.ok log_0) fun t_14 => R.ok (cutR t_14 (some (at_3 + (1 : Int))) none)) fun t_16 => (catR t_15 t_16)) fun a_ => R.ok (a_, s_11)) fun t_17 s_18 => R.ok (Ctl.rt (t_17, s_18))) else (R.bind (R.ok (decide (kind_10 = (1 : Int)))) fun c_19 => if c_19 = true then (R.bind2 (R.bind (R.bind (R.bind (R.bind (R.ok log_0) fun t_20 => R.ok (cutR t_20 none (some at_3))) fun t_21 => (catR t_21 ([((eT eI) entry_7)] : (List Dt)))) fun t_23 => R.bind (R.bind (R.ok log_0) fun t_22 => R.ok (cutR t_22 (some at_3) none)) fun t_24 => (catR t_23 t_24)) fun a_ => R.ok (a_, s_11)) fun t_25 s_26 => R.ok (Ctl.rt (t_25, s_26))) else (R.bind (R.bind (R.bind (R.bind (catR entry_7 ([(0 : Int)] : (List Int))) fun t_43 => R.ok ((eT eI) t_43)) fun t_57 => R.bind (R.bind (R.ok ((eT eI) (cutR entry_7 none (some (-1 : Int))))) fun t_55 => R.bind (R.bind (R.bind (R.ok entry_7) fun t_44 => R.ok ((eL eI) t_44)) fun t_53 => R.bind (R.bind (R.ok (eU ())) fun t_51 => R.bind (R.bind (R.bind (catR (cutR entry_7 none (some (-1 : Int))) ([(2 : Int)] : (List Int))) fun t_45 => R.ok ((eT eI) t_45)) fun t_49 => R.bind (R.bind (R.bind (catR (List.map eI (cutR entry_7 none (some (-1 : Int)))) ([(eB true)] : (List Dt))) fun t_46 => R.ok ((eT eD) t_46)) fun t_47 => R.bind (R.ok ()) fun t_48 => R.ok (t_47, t_48)) fun t_50 => R.ok (t_49, t_50)) fun t_52 => R.ok (t_51, t_52)) fun t_54 => R.ok (t_53, t_54)) fun t_56 => R.ok (t_55, t_56)) fun t_58 => R.ok (t_57, t_58)) fun t_59 => R.ok ([t_59.1, t_59.2.1, t_59.2.2.1, t_59.2.2.2.1, t_59.2.2.2.2.1, t_59.2.2.2.2.2.1] : (List Dt))) fun wrong_60 => (R.bind2 (R.bind (R.bind (R.bind (R.bind (R.ok log_0) fun t_61 => R.ok (cutR t_61 none (some at_3))) fun t_67 => R.bind (R.bind (R.bind (ixR wrong_60 (kind_10 - (2 : Int))) fun t_64 => R.bind (R.ok ()) fun t_65 => R.ok (t_64, t_65)) fun t_66 => R.ok ([t_66.1] : (List Dt))) fun t_68 => (catR t_67 t_68)) fun t_70 => R.bind (R.bind (R.ok log_0) fun t_69 => R.ok (cutR t_69 (some (at_3 + (1 : Int))) none)) fun t_71 => (catR t_70 t_71)) fun a_ => R.ok (a_, s_11)) fun t_72 s_73 => R.ok (Ctl.rt (t_72, s_73))))))) _ from (sx_asgY (ye_callM (get := fun v => v) (put := fun _ x => x) (ya_p (en := (fun s_ => [.ow (some p_) (drO s_), .d ((eL eD) log_0), .d (eI at_3), .d ((eT eI) entry_7), .u, .u])) (xa_v (ds := (fun (a_ : Int × Unit) => [eI a_.1])) (v := ((8 : Int), ())) (ap_cons ep_int ap_nil)) rfl) rfl (fun _ => rfl) (fun _ _ => rfl)) (fun kind_10 s_11 => (show Sx P w K _ _ _ _ _ [.ow (some p_) (drO s_11), .d ((eL eD) log_0), .d (eI at_3), .d ((eT eI) entry_7), .d (eI kind_10), .u] _ _ from (sx_if (xt_v (tp_test (ep_op ep_var ep_int Pw.r2_eqI))) (sx_retE (eR := en_ p_) (ye_p (en := (fun s_ => [.ow (some p_) (drO s_), .d ((eL eD) log_0), .d (eI at_3), .d ((eT eI) entry_7), .d (eI kind_10), .u])) (xp_opMM (xp_o (u := (oL eD)) (xo_cutL (xp_v ep_var) qo_none (qo_some ep_var)) (fun _ => rfl)) (xp_o (u := (oL eD)) (xo_cutL (xp_v ep_var) (qo_some (ep_op ep_var ep_int Pw.r2_I0)) qo_none) (fun _ => rfl)) (fun _ _ => rm_catL)) rfl) (fun s_ => (Le.s (Le.x (Le.x (Le.x (Le.x (Le.x Le.nil))))))) (fun _ _ => rfl)) (sx_skip (sx_if (xt_v (tp_test (ep_op ep_var ep_int Pw.r2_eqI))) (sx_retE (eR := en_ p_) (ye_p (en := (fun s_ => [.ow (some p_) (drO s_), .d ((eL eD) log_0), .d (eI at_3), .d ((eT eI) entry_7), .d (eI kind_10), .u])) (xp_opMM (xp_opMV (xp_o (u := (oL eD)) (xo_cutL (xp_v ep_var) qo_none (qo_some ep_var)) (fun _ => rfl)) (ep_is (e := (eL eD) ([((eT eI) entry_7)] : (List Dt))) (ep_lst (ap_cons ep_var ap_nil) (Nat.le_of_ble_eq_true rfl)) rfl) (fun _ => rm_catL)) (xp_o (u := (oL eD)) (xo_cutL (xp_v ep_var) (qo_some ep_var) qo_none) (fun _ => rfl)) (fun _ _ => rm_catL)) rfl) (fun s_ => (Le.s (Le.x (Le.x (Le.x (Le.x (Le.x Le.nil))))))) (fun _ _ => rfl)) (sx_skip (sx_asg (xp_o (u := (oL eD)) (xo_lst (xa_consM (da := eD) (xp_any (xp_opVV ep_var (ep_is (e := (eT eI) ([(0 : Int)] : (List Int))) (ep_tup (ap_cons ep_int ap_nil) (Nat.le_of_ble_eq_true rfl)) rfl) rm_catT)) (xa_consM (da := eD) (xp_v (ep_cutT ep_var qo_none (qo_some (ep_is (ep_un ep_int Pw.r1_U) rfl)))) (xa_consM (da := eD) (xp_any (xp_o (u := (oL eI)) (xo_listT (xp_v ep_var)) (fun _ => rfl))) (xa_consM (da := eD) (xp_v ep_non) (xa_consM (da := eD) (xp_any (xp_opVV (ep_cutT ep_var qo_none (qo_some (ep_is (ep_un ep_int Pw.r1_U) rfl))) (ep_is (e := (eT eI) ([(2 : Int)] : (List Int))) (ep_tup (ap_cons ep_int ap_nil) (Nat.le_of_ble_eq_true rfl)) rfl) rm_catT)) (xa_consM (da := eD) (xp_any (xp_opVV (ep_anyT (ep_cutT ep_var qo_none (qo_some (ep_is (ep_un ep_int Pw.r1_U) rfl)))) (ep_is (e := (eT eD) ([(eB true)] : (List Dt))) (ep_tup (ap_cons ep_bl ap_nil) (Nat.le_of_ble_eq_true rfl)) rfl) rm_catT)) xa_nil)))))) (fun _ => rfl)) (fun _ => rfl)) (fun wrong_60 => (show Sx P w K _ _ _ _ _ [.ow (some p_) (drO s_11), .d ((eL eD) log_0), .d (eI at_3), .d ((eT eI) entry_7), .d (eI kind_10), .d ((eL eD) wrong_60)] _ _ from (sx_last (sx_retE (eR := en_ p_) (ye_p (en := (fun s_ => [.ow (some p_) (drO s_), .d ((eL eD) log_0), .d (eI at_3), .d ((eT eI) entry_7), .d (eI kind_10), .d ((eL eD) wrong_60)])) (xp_opMM (xp_opMM (xp_o (u := (oL eD)) (xo_cutL (xp_v ep_var) qo_none (qo_some ep_var)) (fun _ => rfl)) (xp_o (u := (oL eD)) (xo_lst (xa_consM (da := eD) (xp_opVV ep_var (ep_op ep_var ep_int Pw.r2_I0) (by first | exact rm_ixD | exact rm_ixL)) xa_nil) (fun _ => rfl)) (fun _ => rfl)) (fun _ _ => rm_catL)) (xp_o (u := (oL eD)) (xo_cutL (xp_v ep_var) (qo_some (ep_op ep_var ep_int Pw.r2_I0)) qo_none) (fun _ => rfl)) (fun _ _ => rm_catL)) rfl) (fun s_ => (Le.s (Le.x (Le.x (Le.x (Le.x (Le.x Le.nil))))))) (fun _ _ => rfl)))))))))))))))))))))))
def b_law (script_0 : (List Int)) : R (Ctl Unit Unit Bool) := (R.bind (R.bind (R.ok (script_0, ())) fun t_1 => (m_law_draws t_1.1).nox) fun draws_2 => (R.bind2 (R.bind2 (R.bind (R.ok ((8 : Int), ())) fun a_ => R.ok (a_, draws_2)) fun t_3 s_4 => R.bind2 (R.nox (m_law_draw s_4 t_3.1)) fun z_ y_ => R.ok (z_, y_)) fun size_5 s_6 => (R.bind2 (R.bind2 (R.bind (R.ok ((4 : Int), ())) fun a_ => R.ok (a_, s_6)) fun t_7 s_8 => R.bind2 (R.nox (m_law_draw s_8 t_7.1)) fun z_ y_ => R.ok (z_, y_)) fun outputs_9 s_10 => (R.bind (R.bind (R.bind (R.ok (size_5, ())) fun t_11 => R.need (-100000 ≤ t_11.1 ∧ t_11.1 ≤ 100000) (R.ok (rangeI 0 (t_11.1).toNat))) fun l_19 => (R.lcR l_19 (fun k_12 => (R.ok true)) (fun k_12 => (R.bind (R.bind (R.bind (strR k_12) fun t_13 => (addSR ("r" : Str) t_13)) fun t_16 => R.bind (R.bind (R.ok ("a" : Str)) fun t_14 => R.bind (R.ok ()) fun t_15 => R.ok (t_14, t_15)) fun t_17 => R.ok (t_16, t_17)) fun t_18 => R.ok (t_18.1, t_18.2.1)))).nox) fun registers_20 => (R.bind (R.bind (R.bind (R.ok ([("a" : Str)] : (List Str))) fun t_27 => R.bind (R.bind (R.ok registers_20) fun t_25 => R.bind (R.bind (R.ok ([] : (List Gt))) fun t_23 => R.bind (R.bind (repTR ([("a" : Str)] : (List Str)) outputs_9) fun t_21 => R.bind (R.ok ()) fun t_22 => R.ok (t_21, t_22)) fun t_24 => R.ok (t_23, t_24)) fun t_26 => R.ok (t_25, t_26)) fun t_28 => R.ok (t_27, t_28)) fun t_29 => (m_Circuit_init t_29.1 t_29.2.1 t_29.2.2.1 t_29.2.2.2.1).nox) fun circuit_30 => (R.bind2 (R.bind2 (R.bind (R.ok (1 : Int)) fun a_ => R.ok (a_, s_10)) fun t_35 s_31 => R.bind2 (R.bind2 (R.bind (R.ok ((if size_5 > (1 : Int) then size_5 else (1 : Int)), ())) fun a_ => R.ok (a_, s_31)) fun t_32 s_33 => R.bind2 (R.nox (m_law_draw s_33 t_32.1)) fun z_ y_ => R.ok (z_, y_)) fun t_36 s_34 => R.bind (R.ok (t_35 + t_36)) fun z_ => R.ok (z_, s_34)) fun count_37 s_38 => (R.bind (R.bind (R.ok (size_5, (count_37, ()))) fun t_39 => (m_law_chains t_39.1 t_39.2.1).nox) fun chains_v_40 => (R.bind2 (R.bind2 (R.bind (R.bind (R.bind (R.bind (ixR chains_v_40 (0 : Int)) fun t_41 => R.ok (t_41.length : Int)) fun t_42 => R.bind (R.ok ()) fun t_43 => R.ok (t_42, t_43)) fun t_44 => R.need (-100000 ≤ t_44.1 ∧ t_44.1 ≤ 100000) (R.ok (rangeI 0 (t_44.1).toNat))) fun a_ => R.ok (a_, s_38)) fun l_ s_46 => (R.lcS l_ s_46 (fun k_45 s_47 => (R.ok (true, s_47))) (fun k_45 s_47 => (R.bind2 (R.bind2 (R.bind (R.ok (count_37, ())) fun a_ => R.ok (a_, s_47)) fun t_48 s_49 => R.bind2 (R.nox (m_law_bits_of s_49 t_48.1)) fun z_ y_ => R.ok (z_, y_)) fun t_50 s_51 => R.ok ((eT eI) t_50, s_51)))).nox) fun log_52 s_53 => (R.bind2 (R.bind2 (R.bind2 (R.bind2 (R.bind (R.ok ((6 : Int), ())) fun a_ => R.ok (a_, s_53)) fun t_54 s_55 => R.bind2 (R.nox (m_law_draw s_55 t_54.1)) fun z_ y_ => R.ok (z_, y_)) fun t_57 s_56 => R.bind2 (R.ok ((), s_56)) fun t_58 s_59 => R.ok ((t_57, t_58), s_59)) fun t_60 s_61 => R.need (-100000 ≤ t_60.1 ∧ t_60.1 ≤ 100000) (R.ok (rangeI 0 (t_60.1).toNat, s_61))) fun l_113 s_62 => R.bindC (R.forR l_113 (s_62, log_52) (fun (v_63 : Dr × (List Dt)) k_64 => (R.bind2 (R.bind2 (R.bind2 (R.bind (R.ok (outputs_9, ())) fun a_ => R.ok (a_, v_63.1)) fun t_65 s_66 => R.bind2 (R.nox (m_law_bits_of s_66 t_65.1)) fun z_ y_ => R.ok (z_, y_)) fun t_67 s_68 => R.ok ((eT eI) t_67, s_68)) fun t_69 s_70 => R.need ((List.map eD v_63.2).length < 100000) (R.bind2 (R.bind2 (R.bind (R.bind (R.bind (R.bind (ixR chains_v_40 (0 : Int)) fun t_71 => R.ok (t_71.length : Int)) fun t_72 => R.bind (R.ok ()) fun t_73 => R.ok (t_72, t_73)) fun t_74 => R.need (-100000 ≤ t_74.1 ∧ t_74.1 ≤ 100000) (R.ok (rangeI 0 (t_74.1).toNat))) fun a_ => R.ok (a_, s_70)) fun l_ s_76 => (R.lcS l_ s_76 (fun j_75 s_77 => (R.ok (true, s_77))) (fun j_75 s_77 => (R.bind2 (R.bind2 (R.bind (R.ok (count_37, ())) fun a_ => R.ok (a_, s_77)) fun t_78 s_79 => R.bind2 (R.nox (m_law_bits_of s_79 t_78.1)) fun z_ y_ => R.ok (z_, y_)) fun t_80 s_81 => R.ok ((eT eI) t_80, s_81)))).nox) fun t_82 s_83 => R.need (((v_63.2 ++ [t_69])).length + t_82.length ≤ 100000) (R.ok (Ctl.nx (s_83, ((v_63.2 ++ [t_69]) ++ t_82)))))))) (fun (w_84 : Dr × (List Dt)) => (R.bindC (R.bind2 (R.bind2 (R.bind2 (R.bind (R.ok ((2 : Int), ())) fun a_ => R.ok (a_, w_84.1)) fun t_85 s_86 => R.bind2 (R.nox (m_law_draw s_86 t_85.1)) fun z_ y_ => R.ok (z_, y_)) fun t_89 s_87 => R.bind2 (R.bind (R.ok (0 : Int)) fun a_ => R.ok (a_, s_87)) fun t_90 s_88 => R.bind (R.ok (decide (t_89 = t_90))) fun z_ => R.ok (z_, s_88)) fun c_92 s_91 => if c_92 = true then (R.bind2 (R.bind2 (R.bind (R.ok (w_84.2, ())) fun a_ => R.ok (a_, s_91)) fun t_93 s_94 => R.bind2 (R.nox (m_law_changed s_94 t_93.1)) fun z_ y_ => R.ok (z_, y_)) fun log_95 s_96 => (R.ok (Ctl.nx (log_95, s_96)))) else (R.ok (Ctl.nx (w_84.2, s_91)))) fun (j_97 : (List Dt) × Dr) => (R.bind (R.bind (R.ok (chains_v_40, (outputs_9, (size_5, (j_97.1, ()))))) fun t_98 => (m_law_due t_98.1 t_98.2.1 t_98.2.2.1 t_98.2.2.2.1).nox) fun due_99 => (R.bindC (R.catch ["BadTester"] (R.bind (R.bind (R.bind (R.ok circuit_30) fun t_104 => R.bind (R.bind (R.ok count_37) fun t_102 => R.bind (R.bind (R.ok j_97.1) fun t_100 => R.bind (R.ok ()) fun t_101 => R.ok (t_100, t_101)) fun t_103 => R.ok (t_102, t_103)) fun t_105 => R.ok (t_104, t_105)) fun t_106 => m_read_back t_106.1 t_106.2.1 t_106.2.2.1) fun found_107 => (R.ok (Ctl.nx found_107))) (R.bind (R.bind (R.ofO (asS due_99)) fun t_108 => (R.ok (decide (t_108 = ("refused" : Str))))) fun t_109 => R.ok (Ctl.rt t_109))) fun (j_110 : (List (List Int))) => (R.bind (R.bind (R.ok (((eL (eT eI)) j_110), (due_99, ()))) fun t_111 => (sameN 6 t_111.1 t_111.2.1).nox) fun t_112 => R.ok (Ctl.rt t_112)))))))))))))))
def m_law (script_0 : (List Int)) : R Bool := (b_law script_0).fin
abbrev R_law (K : PySem.W.Frag) : List Dt → Rs → Prop := RF K (fun (a_ : (List Int) × Unit) => [(eL eI) a_.1]) (fun a_ => m_law a_.1) (fun (b_ : Bool) => .d (eB b_))
theorem l_law (K : PySem.W.Frag) (ds : List Dt) (r : Rs) (h : R_law K ds r) : ds.length = 1 := by
  obtain ⟨_, rfl, _⟩ := h
  rfl
abbrev s_law : Stmt := top 43
abbrev N_law : List Str := ["script", "draws", "size", "outputs", "registers", "k", "circuit", "count", "chains_v", "log", "j", "due", "found"]
theorem sc_law : FnScope N_law ["script"] (defScope s_law) := ⟨rfl, rfl, rfl, by decide +kernel, rfl, by decide +kernel, by decide +kernel⟩
theorem k_law (T : Txt K mg) (D : Dx K mg "law" ["script"] s_law)  (G__law_draws : Fx P w K mg base 1 "_law_draws" ["script"] (spR P w K (R_law_draws K))) (G__law_draw : Fx P w K mg base 1 "_law_draw" ["draws", "limit"] (spM P w K M_law_draw)) (I_Circuit : Ix P w K mg base 5 (He.ga K "Circuit") "Circuit" ["self", "inputs", "registers", "gates", "outputs"] (spI P w K (He.ga K "Circuit") (RM_Circuit_init K true true true true))) (G__law_chains : Fx P w K mg base 1 "_law_chains" ["size", "count"] (spR P w K (R_law_chains K))) (G__law_bits_of : Fx P w K mg base 2 "_law_bits_of" ["draws", "size"] (spM P w K M_law_bits_of)) (G__law_changed : Fx P w K mg base 2 "_law_changed" ["draws", "log"] (spM P w K M_law_changed)) (G__law_due : Fx P w K mg base 2 "_law_due" ["chains_v", "outputs", "size", "log"] (spR P w K (R_law_due K))) (G_read_back : Fx P w K mg base 6 "read_back" ["circuit", "count", "log"] (spR P w K (R_read_back K))) (G__law_same : Fx P w K mg base 7 "_law_same" ["actual", "expected"] (spR P w K (R_law_same 6 K))) : FxL P w K mg base 8 "law" ["script"] (spR P w K (R_law K)) s_law := by
  refine FxL.of D sc_law (l_law K) fun f cdv A outer s H E hr => ?_
  refine ⟨_, (pss_cons (pset (i := 1) sc_law.nd (pe_fx G__law_draws (hr.mono (by decide)) (pa_cons (pv 0) pa_nil)))
      (pss_cons (pset (i := 2) sc_law.nd (pe_fx G__law_draw (hr.mono (by decide)) (pa_cons (pv 1) (pa_cons pe_int pa_nil))))
      (pss_cons (pset (i := 3) sc_law.nd (pe_fx G__law_draw (hr.mono (by decide)) (pa_cons (pv 1) (pa_cons pe_int pa_nil))))
      (pss_cons (pset (i := 4) sc_law.nd (pe_callTy cr_tuple (by rfl) T.f_tuple (by decide +kernel) (pa_cons (pe_lc (own := [("k", 5)]) (g := gName 5) (tt := tYes) rfl sc_law.nd (pi_range1 rfl T.f_range (pa_cons (pv 2) pa_nil)) (blkOk_by (N := N_law) (sc := defScope s_law) (by decide +kernel)) (fun _ _ _ _ _ => (pgn (i := 5) sc_law.nd)) (fun _ _ _ _ _ => pts_nil) (fun _ _ _ _ _ => (pe_tup (pa_cons (pe_op op_add_str pe_str (pe_callTy call_str_int (by rfl) T.f_str (by decide +kernel) (pa_cons (pv 5) pa_nil))) (pa_cons pe_str pa_nil))))) pa_nil)))
      (pss_cons (pset (i := 6) sc_law.nd (pe_ix2 I_Circuit (hr.mono (by decide)) (pa_cons (pe_tup (pa_cons pe_str pa_nil)) (pa_cons (pv 4) (pa_cons (pe_tup pa_nil) (pa_cons (pe_op op_repA (pe_tup (pa_cons pe_str pa_nil)) (pv 3)) pa_nil))))))
      (pss_cons (pset (i := 7) sc_law.nd (pe_op op_add pe_int (pe_fx G__law_draw (hr.mono (by decide)) (pa_cons (pv 1) (pa_cons (pe_callB (cr_max2 rfl) (by rfl) T.f_max (by decide +kernel) (pa_cons pe_int (pa_cons (pv 2) pa_nil))) pa_nil)))))
      (pss_cons (pset (i := 8) sc_law.nd (pe_fx G__law_chains (hr.mono (by decide)) (pa_cons (pv 2) (pa_cons (pv 7) pa_nil))))
      (pss_cons (ps_setLc (i := 9) (own := [("k", 5)]) (g := gName 5) (tt := tYes) rfl sc_law.nd rfl rfl (sw_true rfl rfl rfl (by decide +kernel)) (pi_range1 rfl T.f_range (pa_cons (pe_callB cr_len (by rfl) T.f_len PySem.boot_len (pa_cons (pe_ix ix_list (pv 8) pe_int (fun _ _ => rfl)) pa_nil)) pa_nil)) (blkOk_by (N := N_law) (sc := defScope s_law) (by decide +kernel)) (fun _ _ _ _ _ => (pgn (i := 5) sc_law.nd)) (fun _ _ _ _ _ => pts_nil) (fun _ _ _ _ _ => (pe_fx G__law_bits_of (hr.mono (by decide)) (pa_cons (pv 1) (pa_cons (pv 7) pa_nil)))))
      (pss_cons (ps_for PassesOwn.never rfl (pi_range1 rfl T.f_range (pa_cons (pe_fx G__law_draw (hr.mono (by decide)) (pa_cons (pv 1) (pa_cons pe_int pa_nil))) pa_nil)) (pgn (i := 5) sc_law.nd)
      (pss_cons (ps_expr (pe_bm PySem.F.plainAttrs_list PySem.F.slot_list_append PySem.F.type_list_append mt_append (pv 9) (pa_cons (pe_fx G__law_bits_of (hr.mono (by decide)) (pa_cons (pv 1) (pa_cons (pv 3) pa_nil))) pa_nil)))
      (pss_one (ps_expr (pe_bm PySem.F.plainAttrs_list PySem.F.slot_list_extend PySem.F.type_list_extend mt_extend (pv 9) (pa_cons (pe_lc (own := [("j", 10)]) (g := gName 10) (tt := tYes) rfl sc_law.nd (pi_range1 rfl T.f_range (pa_cons (pe_callB cr_len (by rfl) T.f_len PySem.boot_len (pa_cons (pe_ix ix_list (pv 8) pe_int (fun _ _ => rfl)) pa_nil)) pa_nil)) (blkOk_by (N := N_law) (sc := defScope s_law) (by decide +kernel)) (fun _ _ _ _ _ => (pgn (i := 10) sc_law.nd)) (fun _ _ _ _ _ => pts_nil) (fun _ _ _ _ _ => (pe_fx G__law_bits_of (hr.mono (by decide)) (pa_cons (pv 1) (pa_cons (pv 7) pa_nil))))) pa_nil))))))
      (pss_cons (ps_if (pt_cmpR op_eq (pe_fx G__law_draw (hr.mono (by decide)) (pa_cons (pv 1) (pa_cons pe_int pa_nil))) pe_int (nomark _)) (pss_one (pset (i := 9) sc_law.nd (pe_fx G__law_changed (hr.mono (by decide)) (pa_cons (pv 1) (pa_cons (pv 9) pa_nil))))) pss_nil)
      (pss_cons (pset (i := 11) sc_law.nd (pe_fx G__law_due (hr.mono (by decide)) (pa_cons (pv 8) (pa_cons (pv 3) (pa_cons (pv 2) (pa_cons (pv 9) pa_nil))))))
      (pss_cons (ps_tryO rfl rfl ⟨rfl, by decide, .inl T.c_BadTester⟩ takes0 (fun W pn xe tk1 _ => (pss_one (pset (i := 12) sc_law.nd (pe_fxS G_read_back (hr.mono (by decide)) tk1 (pa_cons (pv 6) (pa_cons (pv 7) (pa_cons (pe_callTy (show CallR _ _ (rListS K) from cr_list) (by rfl) T.f_list (by decide +kernel) (pa_cons (pv 9) pa_nil)) pa_nil))))))) (fun a oe cls d pn hz hf => (pss_one (ps_ret (pe_cmpR op_eq (pv 11) pe_str (nomark _))))))
      (pss_one (ps_ret (pe_fx G__law_same (hr.mono (by decide)) (pa_cons (pv 12) (pa_cons (pv 11) pa_nil))))))))))))))))), ?_⟩
  rintro ds r ⟨⟨script_0, _⟩, rfl, hr⟩
  exact does_d (eX := [.x, .x, .x, .x, .x, .x, .x, .x, .x, .x, .x, .x, .x]) (d := eB) (eL := fun (_ : Unit) => []) (eN := fun (_ : Unit) => []) (show Sx P w K _ _ _ _ _ [.d ((eL eI) script_0), .u, .u, .u, .u, .u, .u, .u, .u, .u, .u, .u, .u] (b_law script_0) _ from (sx_own (xo_call (xa_v (ds := (fun (a_ : (List Int) × Unit) => [(eL eI) a_.1])) (v := (script_0, ())) (ap_cons ep_var ap_nil)) (fun _ => rfl)) (fun draws_2 => (sx_asgY (ye_callM (get := fun v => v) (put := fun _ x => x) (ya_p (en := (fun s_ => [.d ((eL eI) script_0), .ow none (drO s_), .u, .u, .u, .u, .u, .u, .u, .u, .u, .u, .u])) (xa_v (ds := (fun (a_ : Int × Unit) => [eI a_.1])) (v := ((8 : Int), ())) (ap_cons ep_int ap_nil)) rfl) rfl (fun _ => rfl) (fun _ _ => rfl)) (fun size_5 s_6 => (show Sx P w K _ _ _ _ _ [.d ((eL eI) script_0), .ow none (drO s_6), .d (eI size_5), .u, .u, .u, .u, .u, .u, .u, .u, .u, .u] _ _ from (sx_asgY (ye_callM (get := fun v => v) (put := fun _ x => x) (ya_p (en := (fun s_ => [.d ((eL eI) script_0), .ow none (drO s_), .d (eI size_5), .u, .u, .u, .u, .u, .u, .u, .u, .u, .u])) (xa_v (ds := (fun (a_ : Int × Unit) => [eI a_.1])) (v := ((4 : Int), ())) (ap_cons ep_int ap_nil)) rfl) rfl (fun _ => rfl) (fun _ _ => rfl)) (fun outputs_9 s_10 => (show Sx P w K _ _ _ _ _ [.d ((eL eI) script_0), .ow none (drO s_10), .d (eI size_5), .d (eI outputs_9), .u, .u, .u, .u, .u, .u, .u, .u, .u] _ _ from (sx_asg (xp_tupleL (xp_o (u := (oL (eP2 eS eS))) (xo_lc (xi_rng1 (n := fun (a_ : Int × Unit) => a_.1) (xa_v (ds := (fun (a_ : Int × Unit) => [eI a_.1])) (v := (size_5, ())) (ap_cons ep_var ap_nil))) (fun k_12 => ⟨_, gc_name, (xt_v tp_yes), (xp_tup (xa_consM (da := eS) (xp_opVM ep_str (xp_str ep_var) (fun _ => rm_addS)) (xa_consM (da := eS) (xp_v ep_str) xa_nil)) (fun _ => rfl))⟩)) (fun _ => rfl))) (fun registers_20 => (show Sx P w K _ _ _ _ _ [.d ((eL eI) script_0), .ow none (drO s_10), .d (eI size_5), .d (eI outputs_9), .d ((eT (eP2 eS eS)) registers_20), .u, .u, .u, .u, .u, .u, .u, .u] _ _ from (sx_asg (xp_o (xo_make (xa_consM (da := (eT eS)) (xp_v (ep_is (e := (eT eS) ([("a" : Str)] : (List Str))) (ep_tup (ap_cons ep_str ap_nil) (Nat.le_of_ble_eq_true rfl)) rfl)) (xa_consM (da := (eT (eP2 eS eS))) (xp_v ep_var) (xa_consM (da := (eT Gt.d)) (xp_v (ep_is (e := (eT Gt.d) ([] : (List Gt))) (ep_tup ap_nil (Nat.le_of_ble_eq_true rfl)) rfl)) (xa_consM (da := (eT eS)) (xp_opVV (ep_is (e := (eT eS) ([("a" : Str)] : (List Str))) (ep_tup (ap_cons ep_str ap_nil) (Nat.le_of_ble_eq_true rfl)) rfl) ep_var rm_repA) xa_nil)))) (fun _ => rfl)) (fun _ => rfl)) (fun circuit_30 => (show Sx P w K _ _ _ _ _ [.d ((eL eI) script_0), .ow none (drO s_10), .d (eI size_5), .d (eI outputs_9), .d ((eT (eP2 eS eS)) registers_20), .u, .d ((eCircuit K) circuit_30), .u, .u, .u, .u, .u, .u] _ _ from (sx_asgY (ye_op (ye_p (en := (fun s_ => [.d ((eL eI) script_0), .ow none (drO s_), .d (eI size_5), .d (eI outputs_9), .d ((eT (eP2 eS eS)) registers_20), .u, .d ((eCircuit K) circuit_30), .u, .u, .u, .u, .u, .u])) (xp_v ep_int) rfl) (fun _ => (ye_callM (get := fun v => v) (put := fun _ x => x) (ya_p (en := (fun s_ => [.d ((eL eI) script_0), .ow none (drO s_), .d (eI size_5), .d (eI outputs_9), .d ((eT (eP2 eS eS)) registers_20), .u, .d ((eCircuit K) circuit_30), .u, .u, .u, .u, .u, .u])) (xa_v (ds := (fun (a_ : Int × Unit) => [eI a_.1])) (v := ((if size_5 > (1 : Int) then size_5 else (1 : Int)), ())) (ap_cons (ep_cb (ap_cons ep_int (ap_cons ep_var ap_nil)) Pw.rl_max2) ap_nil)) rfl) rfl (fun _ => rfl) (fun _ _ => rfl))) (fun _ _ => (rm_v Pw.r2_I0))) (fun count_37 s_38 => (show Sx P w K _ _ _ _ _ [.d ((eL eI) script_0), .ow none (drO s_38), .d (eI size_5), .d (eI outputs_9), .d ((eT (eP2 eS eS)) registers_20), .u, .d ((eCircuit K) circuit_30), .d (eI count_37), .u, .u, .u, .u, .u] _ _ from (sx_asg (xp_o (u := (oL (eT eI))) (xo_call (xa_v (ds := (fun (a_ : Int × Int × Unit) => [eI a_.1, eI a_.2.1])) (v := (size_5, (count_37, ()))) (ap_cons ep_var (ap_cons ep_var ap_nil))) (fun _ => rfl)) (fun _ => rfl)) (fun chains_v_40 => (show Sx P w K _ _ _ _ _ [.d ((eL eI) script_0), .ow none (drO s_38), .d (eI size_5), .d (eI outputs_9), .d ((eT (eP2 eS eS)) registers_20), .u, .d ((eCircuit K) circuit_30), .d (eI count_37), .d ((eL (eT eI)) chains_v_40), .u, .u, .u, .u] _ _ from (sx_ownY (yo_lcS (eb := (fun s_ k_45 => [.d ((eL eI) script_0), .ow none (drO s_), .d (eI size_5), .d (eI outputs_9), .d ((eT (eP2 eS eS)) registers_20), .d (eI k_45), .d ((eCircuit K) circuit_30), .d (eI count_37), .d ((eL (eT eI)) chains_v_40), .u, .u, .u, .u])) (yi_p (en := (fun s_ => [.d ((eL eI) script_0), .ow none (drO s_), .d (eI size_5), .d (eI outputs_9), .d ((eT (eP2 eS eS)) registers_20), .u, .d ((eCircuit K) circuit_30), .d (eI count_37), .d ((eL (eT eI)) chains_v_40), .u, .u, .u, .u])) (xi_rng1 (n := fun (a_ : Int × Unit) => a_.1) (xa_consM (da := eI) (xp_b1 (xp_opVV ep_var ep_int rm_ixL) (fun _ => rl_lenTm)) xa_nil)) rfl) (fun _ _ _ => rfl) (fun _ _ _ => rfl) (fun _ => noOw_of rfl) (fun _ _ => (Sh.s (Sh.o (Sh.s (Sh.s (Sh.s (Sh.s (Sh.s (Sh.s (Sh.s (Sh.s (Sh.s (Sh.s (Sh.s Sh.nil)))))))))))))) (fun s_47 k_45 => ⟨gc_name, (yt_yes (en := (fun s_ => [.d ((eL eI) script_0), .ow none (drO s_), .d (eI size_5), .d (eI outputs_9), .d ((eT (eP2 eS eS)) registers_20), .d (eI k_45), .d ((eCircuit K) circuit_30), .d (eI count_37), .d ((eL (eT eI)) chains_v_40), .u, .u, .u, .u])) rfl), (ye_any (ye_callM (get := fun v => v) (put := fun _ x => x) (ya_p (en := (fun s_ => [.d ((eL eI) script_0), .ow none (drO s_), .d (eI size_5), .d (eI outputs_9), .d ((eT (eP2 eS eS)) registers_20), .d (eI k_45), .d ((eCircuit K) circuit_30), .d (eI count_37), .d ((eL (eT eI)) chains_v_40), .u, .u, .u, .u])) (xa_v (ds := (fun (a_ : Int × Unit) => [eI a_.1])) (v := (count_37, ())) (ap_cons ep_var ap_nil)) rfl) rfl (fun _ => rfl) (fun _ _ => rfl)))⟩)) (fun log_52 s_53 => (show Sx P w K _ _ _ _ _ [.d ((eL eI) script_0), .ow none (drO s_53), .d (eI size_5), .d (eI outputs_9), .d ((eT (eP2 eS eS)) registers_20), .u, .d ((eCircuit K) circuit_30), .d (eI count_37), .d ((eL (eT eI)) chains_v_40), .ow none ((oL eD) log_52), .u, .u, .u] _ _ from (sx_forYd (en := (fun s_ => [.d ((eL eI) script_0), .ow none (drO s_), .d (eI size_5), .d (eI outputs_9), .d ((eT (eP2 eS eS)) registers_20), .u, .d ((eCircuit K) circuit_30), .d (eI count_37), .d ((eL (eT eI)) chains_v_40), .ow none ((oL eD) log_52), .u, .u, .u])) (eS := fun s_62 => (fun (v_63 : Dr × (List Dt)) => [.d ((eL eI) script_0), .ow none (drO v_63.1), .d (eI size_5), .d (eI outputs_9), .d ((eT (eP2 eS eS)) registers_20), .x, .d ((eCircuit K) circuit_30), .d (eI count_37), .d ((eL (eT eI)) chains_v_40), .ow none ((oL eD) v_63.2), .u, .u, .u])) (v0 := (fun s_62 => (s_62, log_52))) outD_ok (yi_rng1 (n := fun (a_ : Int × Unit) => a_.1) (en := (fun s_ => [.d ((eL eI) script_0), .ow none (drO s_), .d (eI size_5), .d (eI outputs_9), .d ((eT (eP2 eS eS)) registers_20), .u, .d ((eCircuit K) circuit_30), .d (eI count_37), .d ((eL (eT eI)) chains_v_40), .ow none ((oL eD) log_52), .u, .u, .u])) (ya_cons (da := eI) (ye_callM (get := fun v => v) (put := fun _ x => x) (ya_p (en := (fun s_ => [.d ((eL eI) script_0), .ow none (drO s_), .d (eI size_5), .d (eI outputs_9), .d ((eT (eP2 eS eS)) registers_20), .u, .d ((eCircuit K) circuit_30), .d (eI count_37), .d ((eL (eT eI)) chains_v_40), .ow none ((oL eD) log_52), .u, .u, .u])) (xa_v (ds := (fun (a_ : Int × Unit) => [eI a_.1])) (v := ((6 : Int), ())) (ap_cons ep_int ap_nil)) rfl) rfl (fun _ => rfl) (fun _ _ => rfl)) (fun _ => (ya_nil (en := (fun s_ => [.d ((eL eI) script_0), .ow none (drO s_), .d (eI size_5), .d (eI outputs_9), .d ((eT (eP2 eS eS)) registers_20), .u, .d ((eCircuit K) circuit_30), .d (eI count_37), .d ((eL (eT eI)) chains_v_40), .ow none ((oL eD) log_52), .u, .u, .u])) rfl)))) (fun s_62 => (Le.s (Le.s (Le.s (Le.s (Le.s (Le.x (Le.s (Le.s (Le.s (Le.s (Le.s (Le.s (Le.s Le.nil)))))))))))))) (fun s_62 => (fun v_63 k_64 => ⟨_, ge_name, (show Sx P w K _ _ _ _ _ [.d ((eL eI) script_0), .ow none (drO v_63.1), .d (eI size_5), .d (eI outputs_9), .d ((eT (eP2 eS eS)) registers_20), .d (eI k_64), .d ((eCircuit K) circuit_30), .d (eI count_37), .d ((eL (eT eI)) chains_v_40), .ow none ((oL eD) v_63.2), .u, .u, .u] _ _ from (sx_appY (i := 9) (xs := List.map eD v_63.2) rfl (fun _ => rfl) (ye_any (ye_callM (get := fun v => v) (put := fun _ x => x) (ya_p (en := (fun s_ => [.d ((eL eI) script_0), .ow none (drO s_), .d (eI size_5), .d (eI outputs_9), .d ((eT (eP2 eS eS)) registers_20), .d (eI k_64), .d ((eCircuit K) circuit_30), .d (eI count_37), .d ((eL (eT eI)) chains_v_40), .ow none ((oL eD) v_63.2), .u, .u, .u])) (xa_v (ds := (fun (a_ : Int × Unit) => [eI a_.1])) (v := (outputs_9, ())) (ap_cons ep_var ap_nil)) rfl) rfl (fun _ => rfl) (fun _ _ => rfl))) (fun t_69 s_70 => (sx_app1 9 (show Sx P w K _ _ _ _ _ [.d ((eL eI) script_0), .ow none (drO s_70), .d (eI size_5), .d (eI outputs_9), .d ((eT (eP2 eS eS)) registers_20), .d (eI k_64), .d ((eCircuit K) circuit_30), .d (eI count_37), .d ((eL (eT eI)) chains_v_40), .ow none ((oL eD) (v_63.2 ++ [t_69])), .u, .u, .u] _ _ from (sx_last (sx_extY (i := 9) rfl (fun _ => rfl) (yo_lcS (eb := (fun s_ j_75 => [.d ((eL eI) script_0), .ow none (drO s_), .d (eI size_5), .d (eI outputs_9), .d ((eT (eP2 eS eS)) registers_20), .d (eI k_64), .d ((eCircuit K) circuit_30), .d (eI count_37), .d ((eL (eT eI)) chains_v_40), .ow none ((oL eD) (v_63.2 ++ [t_69])), .d (eI j_75), .u, .u])) (yi_p (en := (fun s_ => [.d ((eL eI) script_0), .ow none (drO s_), .d (eI size_5), .d (eI outputs_9), .d ((eT (eP2 eS eS)) registers_20), .d (eI k_64), .d ((eCircuit K) circuit_30), .d (eI count_37), .d ((eL (eT eI)) chains_v_40), .ow none ((oL eD) (v_63.2 ++ [t_69])), .u, .u, .u])) (xi_rng1 (n := fun (a_ : Int × Unit) => a_.1) (xa_consM (da := eI) (xp_b1 (xp_opVV ep_var ep_int rm_ixL) (fun _ => rl_lenTm)) xa_nil)) rfl) (fun _ _ _ => rfl) (fun _ _ _ => rfl) (fun _ => noOw_of rfl) (fun _ _ => (Sh.s (Sh.o (Sh.s (Sh.s (Sh.s (Sh.s (Sh.s (Sh.s (Sh.s (Sh.s (Sh.s (Sh.s (Sh.s Sh.nil)))))))))))))) (fun s_77 j_75 => ⟨gc_name, (yt_yes (en := (fun s_ => [.d ((eL eI) script_0), .ow none (drO s_), .d (eI size_5), .d (eI outputs_9), .d ((eT (eP2 eS eS)) registers_20), .d (eI k_64), .d ((eCircuit K) circuit_30), .d (eI count_37), .d ((eL (eT eI)) chains_v_40), .ow none ((oL eD) (v_63.2 ++ [t_69])), .d (eI j_75), .u, .u])) rfl), (ye_any (ye_callM (get := fun v => v) (put := fun _ x => x) (ya_p (en := (fun s_ => [.d ((eL eI) script_0), .ow none (drO s_), .d (eI size_5), .d (eI outputs_9), .d ((eT (eP2 eS eS)) registers_20), .d (eI k_64), .d ((eCircuit K) circuit_30), .d (eI count_37), .d ((eL (eT eI)) chains_v_40), .ow none ((oL eD) (v_63.2 ++ [t_69])), .d (eI j_75), .u, .u])) (xa_v (ds := (fun (a_ : Int × Unit) => [eI a_.1])) (v := (count_37, ())) (ap_cons ep_var ap_nil)) rfl) rfl (fun _ => rfl) (fun _ _ => rfl)))⟩)) (fun t_82 s_83 => (show Sx P w K _ _ _ _ _ [.d ((eL eI) script_0), .ow none (drO s_83), .d (eI size_5), .d (eI outputs_9), .d ((eT (eP2 eS eS)) registers_20), .d (eI k_64), .d ((eCircuit K) circuit_30), .d (eI count_37), .d ((eL (eT eI)) chains_v_40), .ow none ((oL eD) ((v_63.2 ++ [t_69]) ++ t_82)), .u, .u, .u] _ _ from (sx_end (Le.s (Le.s (Le.s (Le.s (Le.s (Le.x (Le.s (Le.s (Le.s (Le.s (Le.s (Le.s (Le.s Le.nil)))))))))))))))))))))))⟩)) (fun s_62 => (fun w_84 => (show Sx P w K _ _ _ _ _ [.d ((eL eI) script_0), .ow none (drO w_84.1), .d (eI size_5), .d (eI outputs_9), .d ((eT (eP2 eS eS)) registers_20), .x, .d ((eCircuit K) circuit_30), .d (eI count_37), .d ((eL (eT eI)) chains_v_40), .ow none ((oL eD) w_84.2), .u, .u, .u] _ _ from (sx_freeze 9 rfl rfl (sx_ifjY (eM := (fun (j_97 : (List Dt) × Dr) => [.d ((eL eI) script_0), .ow none (drO j_97.2), .d (eI size_5), .d (eI outputs_9), .d ((eT (eP2 eS eS)) registers_20), .x, .d ((eCircuit K) circuit_30), .d (eI count_37), .d ((eL (eT eI)) chains_v_40), .d ((eL eD) j_97.1), .u, .u, .u])) (fun b => (outD_ok b).1) (yt_test (ye_op (ye_callM (get := fun v => v) (put := fun _ x => x) (ya_p (en := (fun s_ => [.d ((eL eI) script_0), .ow none (drO s_), .d (eI size_5), .d (eI outputs_9), .d ((eT (eP2 eS eS)) registers_20), .x, .d ((eCircuit K) circuit_30), .d (eI count_37), .d ((eL (eT eI)) chains_v_40), .d ((eL eD) w_84.2), .u, .u, .u])) (xa_v (ds := (fun (a_ : Int × Unit) => [eI a_.1])) (v := ((2 : Int), ())) (ap_cons ep_int ap_nil)) rfl) rfl (fun _ => rfl) (fun _ _ => rfl)) (fun _ => (ye_p (en := (fun s_ => [.d ((eL eI) script_0), .ow none (drO s_), .d (eI size_5), .d (eI outputs_9), .d ((eT (eP2 eS eS)) registers_20), .x, .d ((eCircuit K) circuit_30), .d (eI count_37), .d ((eL (eT eI)) chains_v_40), .d ((eL eD) w_84.2), .u, .u, .u])) (xp_v ep_int) rfl)) (fun _ _ => (rm_v Pw.r2_eqI)))) (fun s_91 => (sx_last (sx_asgY (ye_callM (get := fun v => v) (put := fun _ x => x) (ya_p (en := (fun s_ => [.d ((eL eI) script_0), .ow none (drO s_), .d (eI size_5), .d (eI outputs_9), .d ((eT (eP2 eS eS)) registers_20), .x, .d ((eCircuit K) circuit_30), .d (eI count_37), .d ((eL (eT eI)) chains_v_40), .d ((eL eD) w_84.2), .u, .u, .u])) (xa_v (ds := (fun (a_ : (List Dt) × Unit) => [(eL eD) a_.1])) (v := (w_84.2, ())) (ap_cons ep_var ap_nil)) rfl) rfl (fun _ => rfl) (fun _ _ => rfl)) (fun log_95 s_96 => (show Sx P w K _ _ _ _ _ [.d ((eL eI) script_0), .ow none (drO s_96), .d (eI size_5), .d (eI outputs_9), .d ((eT (eP2 eS eS)) registers_20), .x, .d ((eCircuit K) circuit_30), .d (eI count_37), .d ((eL (eT eI)) chains_v_40), .d ((eL eD) log_95), .u, .u, .u] _ _ from (sx_end (Le.s (Le.s (Le.s (Le.s (Le.s (Le.s (Le.s (Le.s (Le.s (Le.s (Le.s (Le.s (Le.s Le.nil))))))))))))))))))) (fun s_91 => (sx_end (Le.s (Le.s (Le.s (Le.s (Le.s (Le.s (Le.s (Le.s (Le.s (Le.s (Le.s (Le.s (Le.s Le.nil))))))))))))))) (fun j_97 => (sx_asg (xp_call (xa_v (ds := (fun (a_ : (List (List Int)) × Int × Int × (List Dt) × Unit) => [(eL (eT eI)) a_.1, eI a_.2.1, eI a_.2.2.1, (eL eD) a_.2.2.2.1])) (v := (chains_v_40, (outputs_9, (size_5, (j_97.1, ()))))) (ap_cons ep_var (ap_cons ep_var (ap_cons ep_var (ap_cons ep_var ap_nil))))) (fun _ => rfl)) (fun due_99 => (show Sx P w K _ _ _ _ _ [.d ((eL eI) script_0), .ow none (drO j_97.2), .d (eI size_5), .d (eI outputs_9), .d ((eT (eP2 eS eS)) registers_20), .x, .d ((eCircuit K) circuit_30), .d (eI count_37), .d ((eL (eT eI)) chains_v_40), .d ((eL eD) j_97.1), .u, .d (eD due_99), .u] _ _ from (sx_seq (eM := (fun (j_110 : (List (List Int))) => [.d ((eL eI) script_0), .ow none (drO j_97.2), .d (eI size_5), .d (eI outputs_9), .d ((eT (eP2 eS eS)) registers_20), .x, .d ((eCircuit K) circuit_30), .d (eI count_37), .d ((eL (eT eI)) chains_v_40), .d ((eL eD) j_97.1), .u, .d (eD due_99), .d ((eL (eT eI)) j_110)])) (fun b => (outD_ok b).1) (sx_try (eB := [.d ((eL eI) script_0), .ow none (drO j_97.2), .d (eI size_5), .d (eI outputs_9), .d ((eT (eP2 eS eS)) registers_20), .x, .d ((eCircuit K) circuit_30), .d (eI count_37), .d ((eL (eT eI)) chains_v_40), .d ((eL eD) j_97.1), .u, .d (eD due_99), .x]) ["BadTester"] (fun _ => (sx_last (sx_asg (xp_o (u := (oL (eT eI))) (xo_callX (xa_consM (da := (eCircuit K)) (xp_v ep_var) (xa_consM (da := eI) (xp_v ep_var) (xa_consM (da := (eL eD)) (xp_o (u := (oL eD)) (xo_listL (xp_v ep_var)) (fun _ => rfl)) xa_nil))) (fun _ => rfl) (Le.s (Le.s (Le.s (Le.s (Le.s (Le.s (Le.s (Le.s (Le.s (Le.s (Le.s (Le.s (Le.x Le.nil)))))))))))))) (fun _ => rfl)) (fun found_107 => (show Sx P w K _ _ _ _ _ [.d ((eL eI) script_0), .ow none (drO j_97.2), .d (eI size_5), .d (eI outputs_9), .d ((eT (eP2 eS eS)) registers_20), .x, .d ((eCircuit K) circuit_30), .d (eI count_37), .d ((eL (eT eI)) chains_v_40), .d ((eL eD) j_97.1), .u, .d (eD due_99), .d ((eL (eT eI)) found_107)] _ _ from (sx_end (Le.s (Le.s (Le.s (Le.s (Le.s (Le.s (Le.s (Le.s (Le.s (Le.s (Le.s (Le.s (Le.s Le.nil))))))))))))))))))) (fun C hC => by cases List.mem_singleton.mp hC; exact T.e_BadTester_BadTester) (fun _ _ _ => (sx_last (sx_ret (xp_opMV (xp_cast as_str ep_var) ep_str (fun _ => (rm_v Pw.r2_eqS))) (fun _ => rfl))))) (fun j_110 => (sx_last (sx_ret (xp_call (xa_v (ds := (fun (a_ : Dt × Dt × Unit) => [eD a_.1, eD a_.2.1])) (v := (((eL (eT eI)) j_110), (due_99, ()))) (ap_cons ep_var (ap_cons ep_var ap_nil))) (fun _ => rfl)) (fun _ => rfl))))))))))))))))))))))))))))))))))))))) hr
end
end CC

set_option maxHeartbeats 1000000
namespace CC
open PySem PySem.Spec PyProof.Rows L2 Qw Mw RZ
open Evl hiding ea_cons
open Pw (Dt Rp RpL Wk R2d R1d RLd RLn Kq KqL spX2 Xm Xm0 cr_int cr_min2 cr_max2 cr_list cr_tuple rTupS cr_len pe_globI pe_globS pe_globR pe_tyname)
section
variable {P : Program} {w : World} {K : PySem.W.Frag} {mg : Str → Option Value} {base : Heap}

open Mw
end
section
theorem isint_int (v l g : Int) : m_is_integer (eI v) l g = .ok (decide (l ≤ v) && decide (v ≤ g)) := rfl
theorem isint_non (l g : Int) : m_is_integer (eU ()) l g = .ok false := rfl
theorem isint_bl (l g : Int) : m_is_integer (eB true) l g = .ok false := rfl
theorem isint_str (s : Str) (l g : Int) : m_is_integer (eS s) l g = .ok false := rfl
def regs (n : Nat) : List (Str × Str) := (List.range n).map fun k : Nat => (("r" : Str) ++ strI (k : Int), ("a" : Str))
def st (n c i : Nat) : Nat := i * (n / c) + min i (n % c)
def blk (n c i : Nat) : List Int := rangeI (st n c i : Int) (st n c (i + 1) - st n c i)
def chL (n c : Nat) : List (List Int) := (List.range c).map (blk n c)
theorem st_succ (n c i : Nat) : st n c (i + 1) = st n c i + n / c + (if i < n % c then 1 else 0) := by
  unfold st
  rw [Nat.succ_mul]
  split <;> omega
theorem st_end {n c : Nat} (hc : 0 < c) : st n c c = n := by
  unfold st
  have h1 := Nat.div_add_mod n c
  have h2 := Nat.mod_lt n hc
  rw [Nat.min_eq_right (by omega)]
  exact h1
theorem st_mono {n c i j : Nat} (h : i ≤ j) : st n c i ≤ st n c j := by
  unfold st
  have := Nat.mul_le_mul_right (n / c) h
  omega
theorem max_eq (n : Nat) : (if (n : Int) > 1 then (n : Int) else 1) = ((max 1 n : Nat) : Int) := by split <;> omega
theorem chains_ok (p : CV) {n c : Nat} (hp : p.1.rs.length = n) (hn : n < 31) (c0 : 1 ≤ c) (c1 : c ≤ max 1 n) : m_chains p (eI (c : Int)) = .ok (chL n c) := by
  rw [← holds_eq]
  unfold m_chains b_chains
  simp only [holds_fin, holds_bind, holds_ok, holds_nox, holds_bindC, hp, max_eq]
  rw [isint_int, decide_eq_true (by omega), decide_eq_true (by omega)]
  simp only [holds_ok, Bool.and_self, Bool.not_true, Bool.false_eq_true, if_false, holds_bind, holds_nox, holds_bindC, holds_need]
  rw [show asI (eI (c : Int)) = some (c : Int) from rfl]
  simp only [R.ofO, holds_ok]
  refine ⟨by omega, ?_⟩
  rw [Int.toNat_natCast]
  refine holds_rng (fun v i => v = ((List.range i).map (blk n c), (st n c i : Int))) 0 c _ (by simp [st]) (fun v i hi h => ?_) (fun v h => ?_)
  · subst h
    have he : st n c (i + 1) ≤ n := by
      have := st_mono (n := n) (c := c) (show i + 1 ≤ c by omega)
      rwa [st_end (by omega)] at this
    have hs := st_succ n c i
    have hd : divR (n : Int) (c : Int) = .ok ((n / c : Nat) : Int) := R.need_pos ⟨by omega, by omega⟩
    have hm : modR (n : Int) (c : Int) = .ok ((n % c : Nat) : Int) := R.need_pos (by omega)
    simp only [holds_bind, holds_ok, holds_nox, holds_need, hd, hm, R.bind_ok]
    have hx : ((st n c i : Int) + ((n / c : Nat) : Int)) + (if decide ((0 : Int) + (i : Int) < ((n % c : Nat) : Int)) = true then (1 : Int) else 0) = ((st n c (i + 1) : Nat) : Int) := by
      rw [hs]
      by_cases h : i < n % c
      · rw [if_pos h, if_pos (by simp; omega)]
        omega
      · rw [if_neg h, if_neg (by simp; omega)]
        omega
    have hif : (if decide ((0 : Int) + (i : Int) < ((n % c : Nat) : Int)) = true then R.ok (1 : Int) else R.ok 0) = .ok (if decide ((0 : Int) + (i : Int) < ((n % c : Nat) : Int)) = true then 1 else 0) := by split <;> rfl
    rw [hif, holds_ok, hx]
    have hm2 := st_mono (n := n) (c := c) (show i ≤ i + 1 by omega)
    have ht : tupRg ((st n c i : Nat) : Int) ((st n c (i + 1) : Nat) : Int) = .ok (blk n c i) := by
      unfold tupRg
      rw [R.need_pos (by omega)]
      unfold blk
      rw [show (((st n c (i + 1) : Nat) : Int) - ((st n c i : Nat) : Int)).toNat = st n c (i + 1) - st n c i by omega]
    rw [ht, holds_ok]
    refine ⟨by simp; omega, ?_⟩
    rw [onF_nx, List.range_succ, List.map_append]
    rfl
  · subst h
    rw [onC_nx, onR_rt]
    rfl
theorem rg_take {a : Int} {m k : Nat} (h : k ≤ m) : (rangeI a m).take k = rangeI a k := by
  apply List.ext_getElem?
  intro j
  rw [List.getElem?_take]
  by_cases hj : j < k
  · rw [if_pos hj, rangeI_get (by omega), rangeI_get hj]
  · rw [if_neg hj, List.getElem?_eq_none (by rw [rangeI_len]; omega)]
theorem rg_drop {a : Int} {m k : Nat} (h : k ≤ m) : (rangeI a m).drop k = rangeI (a + k) (m - k) := by
  apply List.ext_getElem?
  intro j
  rw [List.getElem?_drop]
  by_cases hj : j < m - k
  · rw [rangeI_get (by omega), rangeI_get hj]
    congr 1
    omega
  · rw [List.getElem?_eq_none (by rw [rangeI_len]; omega), List.getElem?_eq_none (by rw [rangeI_len]; omega)]
theorem len_eq {n c i : Nat} (hi : i < c) : (((((n - st n c i : Nat) : Int) + (c : Int)) - ((0 : Int) + (i : Int))) - 1) / ((c : Int) - ((0 : Int) + (i : Int))) = ((st n c (i + 1) - st n c i : Nat) : Int) := by
  have h1 := Nat.div_add_mod n c
  have h2 := Nat.mod_lt n (show 0 < c by omega)
  rw [st_succ]
  unfold st
  generalize n / c = q at *
  generalize n % c = r at *
  obtain ⟨d, rfl⟩ : ∃ d, c = i + d := ⟨c - i, by omega⟩
  rw [Nat.add_mul] at h1
  have e1 : ((n - (i * q + min i r) : Nat) : Int) = ((r - min i r : Nat) : Int) + (d : Int) * (q : Int) := by
    have : n - (i * q + min i r) = (r - min i r) + d * q := by omega
    rw [this]
    simp
  have hd : ((i + d : Nat) : Int) - ((0 : Int) + (i : Int)) = (d : Int) := by omega
  have e2 : ((r - min i r : Nat) : Int) + (d : Int) * (q : Int) + ((i + d : Nat) : Int) - ((0 : Int) + (i : Int)) - 1 = (((r - min i r : Nat) : Int) + (d : Int) - 1) + (d : Int) * (q : Int) := by
    generalize (d : Int) * (q : Int) = z
    omega
  rw [e1, hd, e2, Int.add_mul_ediv_left _ _ (by omega)]
  by_cases h : i < r
  · rw [if_pos h, show ((r - min i r : Nat) : Int) + (d : Int) - 1 = (((r - min i r : Nat) : Int) - 1) + (d : Int) * 1 by omega, Int.add_mul_ediv_left _ _ (by omega), Int.ediv_eq_zero_of_lt (by omega) (by omega)]
    omega
  · rw [if_neg h, show ((r - min i r : Nat) : Int) + (d : Int) - 1 = (d : Int) - 1 by omega, Int.ediv_eq_zero_of_lt (by omega) (by omega)]
    omega
theorem law_chains_ok {n c : Nat} (hn : n < 31) (c0 : 1 ≤ c) (c1 : c ≤ max 1 n) : m_law_chains (n : Int) (c : Int) = .ok (chL n c) := by
  rw [← holds_eq]
  unfold m_law_chains b_law_chains
  simp only [holds_fin, holds_bind, holds_ok, holds_nox, holds_bindC, holds_need]
  refine ⟨by omega, ?_⟩
  rw [Int.toNat_natCast]
  refine Holds.imp (Q := fun z => z = .nx (rangeI 0 n)) ?_ (fun z hz => ?_)
  · refine holds_rng (fun v i => v = rangeI 0 i) 0 n _ rfl (fun v i hi h => ?_) (fun v h => by rw [h])
    subst h
    simp only [holds_bind, holds_ok, holds_nox, holds_need, onF_nx, List.length_map, rangeI_len]
    refine ⟨by omega, ?_⟩
    unfold rangeI
    rw [List.range_succ, List.map_append]
    rfl
  subst hz
  rw [onC_nx]
  refine ⟨by omega, ?_⟩
  rw [Int.toNat_natCast]
  refine holds_rng (fun v i => v = (rangeI (st n c i : Int) (n - st n c i), (List.range i).map (blk n c))) 0 c _ (by simp [st]) (fun v i hi h => ?_) (fun v h => ?_)
  · subst h
    have he : st n c (i + 1) ≤ n := by
      have := st_mono (n := n) (c := c) (show i + 1 ≤ c by omega)
      rwa [st_end (by omega)] at this
    have hm2 := st_mono (n := n) (c := c) (show i ≤ i + 1 by omega)
    have hd : divR (((((rangeI (st n c i : Int) (n - st n c i)).length : Int) + (c : Int)) - ((0 : Int) + (i : Int))) - 1) ((c : Int) - ((0 : Int) + (i : Int))) = .ok ((st n c (i + 1) - st n c i : Nat) : Int) := by
      unfold divR
      rw [R.need_pos ⟨by omega, by omega⟩, rangeI_len, len_eq hi]
    simp only [holds_bind, holds_ok, holds_nox, holds_need, hd]
    rw [cutR_to, cutR_from, rg_take (by omega), rg_drop (by omega)]
    refine ⟨by simp; omega, ?_⟩
    rw [onF_nx, List.range_succ, List.map_append]
    show (rangeI _ _, _) = (rangeI _ _, _)
    rw [show (st n c i : Int) + ((st n c (i + 1) - st n c i : Nat) : Int) = (st n c (i + 1) : Int) by omega, show n - st n c i - (st n c (i + 1) - st n c i) = n - st n c (i + 1) by omega]
    rfl
  · subst h
    rw [onC_nx, onR_rt]
    rfl

def okC (n o : Nat) : Bool := match m_Circuit_init [("a" : Str)] (regs n) [] (List.replicate o ("a" : Str)) with
  | .ok p => decide (p.1.rs.length = n) && decide (p.1.os.length = o)
  | _ => false
theorem okC_all : ((List.range 8).all fun n => (List.range 4).all fun o => okC n o) = true := by decide +kernel
theorem okLen : (List.range 31).all (fun k : Nat => decide (("r" : Str).length + (strI (k : Int)).length ≤ 100000)) = true := by decide +kernel
theorem circ_ok {n o : Nat} (h : n < 8) (h2 : o < 4) : ∃ p, m_Circuit_init [("a" : Str)] (regs n) [] (List.replicate o ("a" : Str)) = .ok p ∧ p.1.rs.length = n ∧ p.1.os.length = o := by
  have h1 := List.all_eq_true.mp (List.all_eq_true.mp okC_all n (List.mem_range.mpr h)) o (List.mem_range.mpr h2)
  unfold okC at h1
  cases e : m_Circuit_init [("a" : Str)] (regs n) [] (List.replicate o ("a" : Str)) with
  | ok p =>
    rw [e] at h1
    simp only [Bool.and_eq_true, decide_eq_true_eq] at h1
    exact ⟨p, rfl, h1⟩
  | ex x => rw [e] at h1; cases h1
  | no => rw [e] at h1; cases h1
/-! bits -/
def itemOk : Dt → Bool
  | .int i => decide (0 ≤ i) && decide (i ≤ 1)
  | _ => false
def isBits (d : Dt) (n : Int) : Bool := match d with
  | .tup ds => decide ((ds.length : Int) = n) && ds.all itemOk
  | _ => false
def fine : Dt → Prop
  | .tup ds => ds.length ≤ 40000 ∧ ∀ x ∈ ds, (Pw.tyD x).isSome = true
  | d => (Pw.tyD d).isSome = true
theorem is_bit_ok {d : Dt} (h : (Pw.tyD d).isSome = true) : m_is_bit d = .ok (itemOk d) := by
  cases d <;> first | rfl | cases h
theorem lc_all {α : Type} {p : α → Bool} {f : α → R Bool} {xs : List α} (hl : xs.length ≤ 40000) (h : ∀ a ∈ xs, f a = .ok (p a)) : (R.lcR xs (fun _ => .ok true) f) = .ok (xs.map p) := R.lcR_mapOn hl h
theorem all_id {α : Type} {p : α → Bool} {xs : List α} : (xs.map p).all id = xs.all p := by
  rw [List.all_map]
  rfl
theorem are_bits_ok {d : Dt} {n : Int} (h : fine d) : m_are_bits d n = .ok (isBits d n) := by
  unfold m_are_bits b_are_bits
  cases d with
  | tup ds =>
    obtain ⟨h1, h2⟩ := h
    rw [R.need_pos (show (Pw.tyD (.tup ds)).isSome = true from rfl)]
    simp only [R.bind_ok, Pw.isTp, lenDR, Bool.not_true, Bool.false_eq_true, if_false]
    by_cases hn : (ds.length : Int) = n
    · have e : asT some (Dt.tup ds) = some ds := by
        have := as_tup as_any (Dt.tup ds) ds
        rw [this]
        show Dt.tup ds = Dt.tup (ds.map fun d => d)
        rw [List.map_id']
      rw [decide_eq_true hn, e]
      simp only [Bool.not_true, Bool.false_eq_true, if_false, ofO_some, R.bind_ok]
      rw [lc_all h1 fun a ha => by rw [is_bit_ok (h2 a ha)]; rfl]
      simp only [R.nox_ok, R.bind_ok, R.fin_rt, all_id]
      show R.ok _ = R.ok (decide _ && ds.all itemOk)
      rw [decide_eq_true hn]
      rfl
    · rw [decide_eq_false hn]
      simp only [Bool.not_false, if_true, R.bind_ok, R.fin_rt]
      show R.ok _ = R.ok (decide _ && ds.all itemOk)
      rw [decide_eq_false hn]
      rfl
  | non => rfl
  | bl b => rfl
  | int b => rfl
  | str b => rfl
  | lst b => rfl
  | dic a b => rfl
  | dit a b => rfl
  | obj a b c => cases h
  | exc a b c => cases h
  | ty b => cases h
  | adr b => cases h
theorem tests_ok {d : Dt} (h : (Pw.tyD d).isSome = true) : (R.bind (R.need (Pw.tyD d).isSome (R.ok (Pw.isB d))) fun t_11 => if t_11 = true then R.ok true else (R.bind (R.bind (R.need (Pw.tyD d).isSome (R.ok (Pw.isI d || Pw.isB d))) fun t_8 => R.ok (!t_8)) fun t_10 => if t_10 = true then R.ok true else (R.bind (R.ofO (asI d)) fun t_9 => (R.ok (!(decide (t_9 ∈ ([(0 : Int), (1 : Int)] : (List Int))))))))) = .ok (!itemOk d) := by
  cases d with
  | int i =>
    show R.ok (!decide (i ∈ [(0 : Int), 1])) = .ok (!(decide (0 ≤ i) && decide (i ≤ 1)))
    congr 2
    rw [← Bool.decide_and]
    congr 1
    simp
    omega
  | non => rfl
  | bl b => rfl
  | str b => rfl
  | tup b => rfl
  | lst b => rfl
  | dic a b => rfl
  | dit a b => rfl
  | obj a b c => cases h
  | exc a b c => cases h
  | ty b => cases h
  | adr b => cases h
theorem len0_all {α : Type} {p : α → Bool} {xs : List α} : decide (((xs.filter fun a => !p a).length : Int) = 0) = xs.all p := by
  rw [Bool.eq_iff_iff, decide_eq_true_eq, List.all_eq_true]
  constructor
  · intro h a ha
    have h1 : (xs.filter fun a => !p a) = [] := List.length_eq_zero_iff.mp (by omega)
    have := List.filter_eq_nil_iff.mp h1 a ha
    simpa using this
  · intro h
    have h1 : (xs.filter fun a => !p a) = [] := List.filter_eq_nil_iff.mpr fun a ha => by simp [h a ha]
    rw [h1]
    rfl
theorem law_bits_ok {d : Dt} {n : Int} (h : fine d) : m_law_is_bits d n = .ok (isBits d n) := by
  unfold m_law_is_bits b_law_is_bits
  cases d with
  | tup ds =>
    obtain ⟨h1, h2⟩ := h
    rw [R.need_pos (show (Pw.tyD (.tup ds)).isSome = true from rfl)]
    simp only [R.bind_ok, Pw.isTp, lenDR, Bool.not_true, Bool.false_eq_true, if_false]
    by_cases hn : (ds.length : Int) = n
    · have e : asT some (Dt.tup ds) = some ds := by
        have := as_tup as_any (Dt.tup ds) ds
        rw [this]
        show Dt.tup ds = Dt.tup (ds.map fun d => d)
        rw [List.map_id']
      rw [decide_eq_true hn, e]
      simp only [Bool.not_true, Bool.false_eq_true, if_false, ofO_some, R.bind_ok]
      rw [R.lcR_on (p := fun a => !itemOk a) (v := fun a => a) h1 (t := fun one_7 => _) (fun a ha => tests_ok (h2 a ha)) (fun _ _ _ => rfl)]
      simp only [R.nox_ok, R.bind_ok, R.fin_rt, List.map_id', len0_all]
      show R.ok _ = R.ok (decide _ && ds.all itemOk)
      rw [decide_eq_true hn]
      rfl
    · rw [decide_eq_false hn]
      simp only [Bool.not_false, if_true, R.bind_ok, R.fin_rt]
      show R.ok _ = R.ok (decide _ && ds.all itemOk)
      rw [decide_eq_false hn]
      rfl
  | non => rfl
  | bl b => rfl
  | int b => rfl
  | str b => rfl
  | lst b => rfl
  | dic a b => rfl
  | dit a b => rfl
  | obj a b c => cases h
  | exc a b c => cases h
  | ty b => cases h
  | adr b => cases h
def bad : Exn := ⟨"BadTester", [], []⟩
theorem check_bits_ok {d : Dt} {n : Int} (h : fine d) : m_check_bits d n = if isBits d n = true then .ok () else .ex bad := by
  unfold m_check_bits b_check_bits
  simp only [R.bind_ok, are_bits_ok h, R.nox_ok]
  cases isBits d n <;> rfl
/-! loops that check -/
theorem for_check {α ρ τ : Type} {f : Unit → α → R (Ctl Unit Unit ρ)} {p : α → Bool} {x : Exn} : ∀ {xs : List α}, (∀ a ∈ xs, f () a = if p a = true then .ok (.nx ()) else .ex x) → (R.forR xs () f : R (Ctl Unit τ ρ)) = if xs.all p = true then .ok (.nx ()) else .ex x
  | [], _ => rfl
  | a :: r, h => by
    have h1 := h a List.mem_cons_self
    have ih := for_check (τ := τ) (xs := r) fun b hb => h b (List.mem_cons_of_mem _ hb)
    rw [R.forR, h1, List.all_cons]
    cases p a
    · rfl
    · simp only [if_true, Bool.true_and]
      exact ih
theorem for_find {α ρ τ : Type} {f : Unit → α → R (Ctl Unit Unit ρ)} {p : α → Bool} {b : ρ} : ∀ {xs : List α}, (∀ a ∈ xs, f () a = if p a = true then .ok (.nx ()) else .ok (.rt b)) → (R.forR xs () f : R (Ctl Unit τ ρ)) = if xs.all p = true then .ok (.nx ()) else .ok (.rt b)
  | [], _ => rfl
  | a :: r, h => by
    have h1 := h a List.mem_cons_self
    have ih := for_find (τ := τ) (xs := r) fun b hb => h b (List.mem_cons_of_mem _ hb)
    rw [R.forR, h1, List.all_cons]
    cases p a
    · rfl
    · simp only [if_true, Bool.true_and]
      exact ih
end
end CC

set_option maxHeartbeats 1000000
namespace CC
open PySem PySem.Spec PyProof.Rows L2 Qw Mw RZ
open Evl hiding ea_cons
open Pw (Dt Rp RpL Wk R2d R1d RLd RLn Kq KqL spX2 Xm Xm0 cr_int cr_min2 cr_max2 cr_list cr_tuple rTupS cr_len pe_globI pe_globS pe_globR pe_tyname)
section
variable {P : Program} {w : World} {K : PySem.W.Frag} {mg : Str → Option Value} {base : Heap}

open Mw
end
section
def wd (o c : Int) (L : Nat) (k : Int) : Int := if decide (k % ((L : Int) + 1) = L) = true then o else c
def good (log : List Dt) (o c : Int) (L : Nat) : Bool := (decide (L ≤ log.length) && decide (((log.length : Int) - L) % ((L : Int) + 1) = 0)) && (enumI log).all fun q => isBits q.2 (wd o c L q.1)
theorem mod_eq (k L : Nat) : decide (((k : Int) - L) % ((L : Int) + 1) = 0) = decide ((k : Int) % ((L : Int) + 1) = L) := by
  have e : ((k : Int) - L) % ((L : Int) + 1) = ((k : Int) + 1) % ((L : Int) + 1) := by
    rw [show (k : Int) + 1 = ((k : Int) - L) + ((L : Int) + 1) by omega, Int.add_emod_right]
  rw [e]
  have h1 : (((k : Int) + 1) % ((L : Int) + 1)) = (((k + 1) % (L + 1) : Nat) : Int) := by simp
  have h2 : ((k : Int) % ((L : Int) + 1)) = ((k % (L + 1) : Nat) : Int) := by simp
  rw [h1, h2]
  congr 1
  have hm := Nat.mod_lt k (show 0 < L + 1 by omega)
  have ha := Nat.add_mod k 1 (L + 1)
  apply propext
  by_cases hL : L = 0
  · subst hL
    simp [Nat.mod_one]
  · rw [Nat.mod_eq_of_lt (show 1 < L + 1 by omega)] at ha
    rw [ha]
    constructor
    · intro h
      have h : (k % (L + 1) + 1) % (L + 1) = 0 := by omega
      by_cases hr : k % (L + 1) + 1 < L + 1
      · rw [Nat.mod_eq_of_lt hr] at h
        omega
      · omega
    · intro h
      have h : k % (L + 1) = L := by omega
      rw [h, Nat.mod_self]
      rfl
theorem len_ok (N L : Nat) : (decide ((0 : Int) < ((N : Int) - L) % ((L : Int) + 1))) = !(decide (L ≤ N) && decide (((N : Int) - L) % ((L : Int) + 1) = 0)) := by
  have h0 := Int.emod_nonneg ((N : Int) - L) (show (L : Int) + 1 ≠ 0 by omega)
  by_cases h : L ≤ N
  · rw [decide_eq_true h, Bool.true_and]
    by_cases h1 : ((N : Int) - L) % ((L : Int) + 1) = 0
    · rw [decide_eq_true h1, h1]
      rfl
    · rw [decide_eq_false h1, decide_eq_true (by omega)]
      rfl
  · rw [decide_eq_false h, Bool.false_and]
    have e : ((N : Int) - L) % ((L : Int) + 1) = (N : Int) + 1 := by
      rw [← Int.add_emod_right, show ((N : Int) - L) + ((L : Int) + 1) = (N : Int) + 1 by omega, Int.emod_eq_of_lt (by omega) (by omega)]
    rw [e, decide_eq_true (by omega)]
    rfl
theorem enum_mem {α : Type} {xs : List α} {q : Int × α} (h : q ∈ enumI xs) : ∃ k : Nat, q.1 = (k : Int) ∧ xs[k]? = some q.2 := by
  obtain ⟨k, hk⟩ := List.getElem?_of_mem h
  rw [enumI_get] at hk
  obtain ⟨a, ha, rfl⟩ := Option.map_eq_some_iff.mp hk
  exact ⟨k, rfl, ha⟩
theorem small_div {N L : Nat} (hN : N ≤ 1000) : ((N : Int) - L) / ((L : Int) + 1) ≤ 1000 := by
  by_cases h : L ≤ N
  · have := Int.ediv_le_self (a := (N : Int) - L) ((L : Int) + 1) (by omega)
    omega
  · have := Int.ediv_neg_of_neg_of_pos (a := (N : Int) - L) (b := (L : Int) + 1) (by omega) (by omega)
    omega
theorem check_log_ok {p : CV} {c : Int} {o L : Nat} {log : List Dt} (ho : p.1.os.length = o) (hf : ∀ d ∈ log, fine d) (hN : log.length ≤ 1000) (hL : L ≤ 1000) : m_check_log p c (L : Int) log = if good log o c L = true then .ok (((log.length : Int) - L) / ((L : Int) + 1)) else .ex bad := by
  unfold m_check_log b_check_log divmodR
  rw [R.need_pos ⟨by omega, by omega⟩]
  simp only [R.bind_ok, len_ok]
  rw [decide_eq_false (p := (1000 : Int) < _) (by have := small_div (L := L) hN; omega), Bool.false_or]
  unfold good
  cases h : (decide (L ≤ log.length) && decide (((log.length : Int) - L) % ((L : Int) + 1) = 0)) with
  | false => rfl
  | true =>
    simp only [Bool.not_true, Bool.false_eq_true, if_false, Bool.true_and]
    rw [for_check (p := fun q : Int × Dt => isBits q.2 (wd o c L q.1)) (x := bad) fun q hq => ?_]
    · split <;> rfl
    · obtain ⟨k, hk, hd⟩ := enum_mem hq
      have hfd := hf q.2 (List.mem_of_getElem? hd)
      unfold modR
      rw [R.need_pos (by omega)]
      simp only [R.bind_ok]
      rw [check_bits_ok hfd, hk, mod_eq, ho]
      show R.bind (if isBits q.2 (wd o c L k) = true then R.ok () else R.ex bad) _ = _
      split <;> rfl
theorem due_ok1 {ch : List (List Int)} {r0 : List Int} {c : Int} {o n L : Nat} {log : List Dt} (h0 : ixR ch 0 = .ok r0) (hr : r0.length = L) (hc : (ch.length : Int) = c) (hf : ∀ d ∈ log, fine d) (hN : log.length ≤ 1000) (hL : L ≤ 1000) (hg : good log o c L = false) : m_law_due ch o n log = .ok (eS "refused") := by
  unfold m_law_due b_law_due
  rw [h0]
  simp only [R.bind_ok, hr]
  unfold good at hg
  by_cases h1 : L ≤ log.length
  · rw [decide_eq_true h1, Bool.true_and] at hg
    rw [decide_eq_false (by omega)]
    unfold modR
    rw [R.need_pos (by omega)]
    simp only [R.bind_ok, Bool.false_eq_true, if_false]
    cases h2 : decide (((log.length : Int) - L) % ((L : Int) + 1) = 0) with
    | false => rfl
    | true =>
      rw [h2, Bool.true_and] at hg
      simp only [Bool.not_true, Bool.false_eq_true, if_false, R.bind_ok]
      rw [R.need_pos (by omega)]
      simp only [R.bind_ok]
      rw [for_find (p := fun k : Int => isBits (log.getD k.toNat .non) (wd o c L k)) (b := eS "refused") fun k hk => ?_]
      · have ha : ((rangeI 0 (Int.toNat (log.length : Int))).all fun k : Int => isBits (log.getD k.toNat .non) (wd o c L k)) = false := by
          rw [← hg, Bool.eq_iff_iff, List.all_eq_true, List.all_eq_true]
          constructor
          · intro h q hq
            obtain ⟨k, hk, hd⟩ := enum_mem hq
            have := h (k : Int) (rangeI_mem.mpr ⟨k, by have := get_lt hd; omega, by omega⟩)
            rw [Int.toNat_natCast, List.getD_eq_getElem?_getD, hd] at this
            rw [hk]
            exact this
          · intro h k hk
            obtain ⟨i, hi, rfl⟩ := rangeI_mem.mp hk
            have hi : i < log.length := by omega
            have := h ((i : Int), log[i]) (List.mem_of_getElem? (i := i) (by rw [enumI_get, List.getElem?_eq_getElem hi]; rfl))
            rw [show ((0 : Int) + (i : Int)).toNat = i by omega, List.getD_eq_getElem?_getD, List.getElem?_eq_getElem hi, Int.zero_add]
            exact this
        rw [ha]
        rfl
      · obtain ⟨i, hi, rfl⟩ := rangeI_mem.mp hk
        have hi : i < log.length := by omega
        rw [Int.zero_add, Int.toNat_natCast, R.need_pos (by omega)]
        simp only [R.bind_ok]
        rw [ixR_nat (List.getElem?_eq_getElem hi)]
        simp only [R.bind_ok]
        rw [law_bits_ok (hf _ (List.getElem_mem hi)), hc, List.getD_eq_getElem?_getD, List.getElem?_eq_getElem hi]
        show (R.bind (R.bind (R.nox (R.ok (isBits log[i] (wd o c L i)))) _) _) = (if isBits log[i] (wd o c L i) = true then _ else _)
        cases isBits log[i] (wd o c L i) <;> rfl
  · rw [decide_eq_true (by omega)]
    rfl
end
end CC

set_option maxHeartbeats 1000000
namespace CC
open PySem PySem.Spec PyProof.Rows L2 Qw Mw RZ
open Evl hiding ea_cons
open Pw (Dt Rp RpL Wk R2d R1d RLd RLn Kq KqL spX2 Xm Xm0 cr_int cr_min2 cr_max2 cr_list cr_tuple rTupS cr_len pe_globI pe_globS pe_globR pe_tyname)
section
variable {P : Program} {w : World} {K : PySem.W.Frag} {mg : Str → Option Value} {base : Heap}

open Mw
end
section
def bitsOf : Dt → List Int
  | .tup ds => ds.map fun d => match d with | .int i => i | _ => 0
  | _ => []
theorem isBits_enc {d : Dt} {n : Int} (h : isBits d n = true) : d = eT eI (bitsOf d) ∧ ((bitsOf d).length : Int) = n := by
  cases d with
  | tup ds =>
    have h : (decide ((ds.length : Int) = n) && ds.all itemOk) = true := h
    rw [Bool.and_eq_true, decide_eq_true_eq] at h
    refine ⟨?_, by simpa [bitsOf] using h.1⟩
    show Dt.tup ds = Dt.tup ((ds.map _).map eI)
    rw [List.map_map]
    congr 1
    have : ds.map id = ds := List.map_id ds
    conv => lhs; rw [← this]
    apply List.map_congr_left
    intro d hd
    have := List.all_eq_true.mp h.2 d hd
    cases d <;> first | rfl | cases this
  | _ => cases h
theorem wd_int (o c : Int) (L k : Nat) : wd o c L k = if k % (L + 1) = L then o else c := by
  unfold wd
  have h2 : ((k : Int) % ((L : Int) + 1)) = ((k % (L + 1) : Nat) : Int) := by simp
  rw [h2]
  by_cases h : k % (L + 1) = L
  · rw [if_pos h, if_pos (by rw [h]; simp)]
  · rw [if_neg h, if_neg (by rw [decide_eq_true_eq]; omega)]
structure Good (bs : List (List Int)) (o c L : Nat) : Prop where
  le : L ≤ bs.length
  md : ∃ m, bs.length = L + m * (L + 1)
  wid : ∀ k (b : List Int), bs[k]? = some b → b.length = if k % (L + 1) = L then o else c
theorem good_enc {log : List Dt} {o c L : Nat} (h : good log o c L = true) : ∃ bs : List (List Int), log = bs.map (eT eI) ∧ Good bs o c L := by
  unfold good at h
  rw [Bool.and_eq_true, Bool.and_eq_true, decide_eq_true_eq, decide_eq_true_eq, List.all_eq_true] at h
  obtain ⟨⟨h1, h2⟩, h3⟩ := h
  have h4 : ∀ (k : Nat) (d : Dt), log[k]? = some d → isBits d (wd o c L k) = true := fun k d hk => h3 ((k : Int), d) (List.mem_of_getElem? (i := k) (by rw [enumI_get, hk]; rfl))
  refine ⟨log.map bitsOf, ?_, ⟨by simpa using h1, ?_, fun k b hb => ?_⟩⟩
  · rw [List.map_map]
    conv => lhs; rw [← List.map_id log]
    apply List.map_congr_left
    intro d hd
    obtain ⟨k, hk⟩ := List.getElem?_of_mem hd
    exact (isBits_enc (h4 k d hk)).1
  · rw [List.length_map]
    have e : ((log.length : Int) - L) % ((L : Int) + 1) = (((log.length - L) % (L + 1) : Nat) : Int) := by
      rw [Int.natCast_emod]
      congr 1
      omega
    rw [e] at h2
    refine ⟨(log.length - L) / (L + 1), ?_⟩
    have := Nat.div_add_mod (log.length - L) (L + 1)
    rw [Nat.mul_comm] at this
    omega
  · rw [List.getElem?_map] at hb
    obtain ⟨d, hd, rfl⟩ := Option.map_eq_some_iff.mp hb
    have := (isBits_enc (h4 k d hd)).2
    rw [wd_int] at this
    split at this
    · rename_i hk
      rw [if_pos hk]
      omega
    · rename_i hk
      rw [if_neg hk]
      omega
def lj (n c j : Nat) : Nat := st n c (j + 1) - st n c j
theorem lj_val (n c j : Nat) : lj n c j = n / c + (if j < n % c then 1 else 0) := by
  unfold lj
  rw [st_succ]
  generalize n / c = q
  split <;> omega
theorem lj_le (n c j : Nat) : lj n c j ≤ lj n c 0 := by
  rw [lj_val, lj_val]
  generalize n / c = q
  split <;> split <;> omega
theorem st_next (n c j : Nat) : st n c (j + 1) = st n c j + lj n c j := by
  have := st_mono (n := n) (c := c) (show j ≤ j + 1 by omega)
  unfold lj
  omega
def vl (bs : List (List Int)) (pl back j : Nat) : Int := (bs.getD (pl + 1 + back) []).getD j 0
def TT (n c : Nat) (bs : List (List Int)) (pl j : Nat) : List Int := (List.range (lj n c j)).map fun b => vl bs pl b j
def tak (n c : Nat) (bs : List (List Int)) (pl J : Nat) : List Int := ((List.range J).map fun j => (TT n c bs pl j).reverse).flatten
theorem tak_succ (n c : Nat) (bs : List (List Int)) (pl J : Nat) : tak n c bs pl (J + 1) = tak n c bs pl J ++ (TT n c bs pl J).reverse := by
  unfold tak
  rw [List.range_succ, List.map_append, List.flatten_append]
  simp
theorem TT_len (n c : Nat) (bs : List (List Int)) (pl j : Nat) : (TT n c bs pl j).length = lj n c j := by simp [TT]
theorem tak_len (n c : Nat) (bs : List (List Int)) (pl : Nat) : ∀ J, (tak n c bs pl J).length = st n c J
  | 0 => by simp [tak, st]
  | J + 1 => by rw [tak_succ, List.length_append, List.length_reverse, TT_len, tak_len n c bs pl J, st_next]
def row (n c : Nat) (bs : List (List Int)) (k : Nat) : List Int := bs.getD (lj n c 0 + k * (lj n c 0 + 1)) [] ++ tak n c bs (lj n c 0 + k * (lj n c 0 + 1)) c
theorem ch0 {n c : Nat} (h : 0 < c) : ixR (chL n c) 0 = .ok (blk n c 0) := ixR_ok (j := 0) rfl (by unfold chL; rw [List.getElem?_map, List.getElem?_range h]; rfl)
theorem ch_at {n c j : Nat} (h : j < c) : (chL n c)[j]? = some (blk n c j) := by
  unfold chL
  rw [List.getElem?_map, List.getElem?_range h]
  rfl
theorem blk_len (n c j : Nat) : (blk n c j).length = lj n c j := rangeI_len
/-- the words behind a clock -/
theorem at_val {bs : List (List Int)} {n c o m k b j : Nat} (g : Good bs o c (lj n c 0)) (hm : bs.length = lj n c 0 + m * (lj n c 0 + 1)) (hk : k < m) (hj : j < c) (hb : b < lj n c j) : ∃ w, bs[lj n c 0 + k * (lj n c 0 + 1) + 1 + b]? = some w ∧ w[j]? = some (vl bs (lj n c 0 + k * (lj n c 0 + 1)) b j) := by
  have hb2 := lj_le n c j
  generalize lj n c 0 = L at *
  have h1 : (k + 1) * (L + 1) ≤ m * (L + 1) := Nat.mul_le_mul_right _ hk
  rw [Nat.add_mul] at h1
  have hl : L + k * (L + 1) + 1 + b < bs.length := by omega
  refine ⟨bs[L + k * (L + 1) + 1 + b], List.getElem?_eq_getElem hl, ?_⟩
  have hw := g.wid _ _ (List.getElem?_eq_getElem hl)
  have e : (L + k * (L + 1) + 1 + b) % (L + 1) = b := by
    rw [show L + k * (L + 1) + 1 + b = b + (k + 1) * (L + 1) by rw [Nat.add_mul]; omega, Nat.add_mul_mod_self_right, Nat.mod_eq_of_lt (by omega)]
  rw [e, if_neg (by omega)] at hw
  unfold vl
  have e2 : bs.getD (L + k * (L + 1) + 1 + b) [] = bs[L + k * (L + 1) + 1 + b] := by rw [List.getD_eq_getElem?_getD, List.getElem?_eq_getElem hl]; rfl
  rw [e2]
  exact Pw.itemD 0 (by rw [hw]; exact hj)
theorem at_clock {bs : List (List Int)} {L o c m k : Nat} (g : Good bs o c L) (hm : bs.length = L + m * (L + 1)) (hk : k < m) : ∃ w, bs[L + k * (L + 1)]? = some w ∧ w = bs.getD (L + k * (L + 1)) [] ∧ w.length = o := by
  have h1 : (k + 1) * (L + 1) ≤ m * (L + 1) := Nat.mul_le_mul_right _ hk
  rw [Nat.add_mul] at h1
  have hl : L + k * (L + 1) < bs.length := by omega
  refine ⟨bs[L + k * (L + 1)], List.getElem?_eq_getElem hl, by rw [List.getD_eq_getElem?_getD, List.getElem?_eq_getElem hl]; rfl, ?_⟩
  have hw := g.wid _ _ (List.getElem?_eq_getElem hl)
  rwa [Nat.add_mul_mod_self_right, Nat.mod_eq_of_lt (by omega), if_pos rfl] at hw
theorem div_many {N L m : Nat} (h : N = L + m * (L + 1)) : ((N : Int) - L) / ((L : Int) + 1) = (m : Int) := by
  subst h
  have e : ((L + m * (L + 1) : Nat) : Int) - L = (m : Int) * ((L : Int) + 1) := by
    simp
    rw [Int.add_comm, Int.add_sub_cancel]
  rw [e, Int.mul_ediv_cancel _ (by omega)]
theorem many_le {N L m : Nat} (h : N = L + m * (L + 1)) : m ≤ N := by
  have := Nat.le_mul_of_pos_right m (show 0 < L + 1 by omega)
  omega
theorem enc_logs {bs : List (List Int)} : eL eD (bs.map (eT eI)) = eL (eT eI) bs := by
  show Dt.lst _ = Dt.lst _
  rw [List.map_map]
  rfl
theorem read_ok {p : CV} {n c o : Nat} {bs : List (List Int)} {m : Nat} (hp : p.1.rs.length = n) (hn : n < 8) (c0 : 1 ≤ c) (c1 : c ≤ max 1 n) (g : Good bs o c (lj n c 0)) (hm : bs.length = lj n c 0 + m * (lj n c 0 + 1)) (ho : o < 4) (hN : bs.length ≤ 1000) (hc : m_check_log p (c : Int) (lj n c 0 : Int) (bs.map (eT eI)) = .ok (((bs.length : Int) - (lj n c 0 : Nat)) / ((lj n c 0 : Nat) + 1 : Int))) : m_read_back p (c : Int) (bs.map (eT eI)) = .ok ((List.range m).map (row n c bs)) := by
  rw [← holds_eq]
  unfold m_read_back b_read_back
  have hml := many_le hm
  have hL : lj n c 0 ≤ 8 := by
    have := st_mono (n := n) (c := c) (show 0 + 1 ≤ c by omega)
    rw [st_end (by omega)] at this
    unfold lj
    omega
  simp only [holds_fin, R.bind_ok, chains_ok p hp (by omega) c0 c1, ch0 (show 0 < c by omega), blk_len, hc, div_many hm, enc_logs, (as_list (as_tup as_int)).mk, ofO_some]
  rw [R.need_pos (by omega)]
  simp only [R.bind_ok, Int.toNat_natCast]
  rw [holds_bindC]
  refine holds_rng (fun v i => v = (List.range i).map (row n c bs)) 0 m _ rfl (fun v k hk h => ?_) (fun v h => ?_)
  · subst h
    have hmul : mulR (0 + (k : Int)) ((lj n c 0 : Int) + 1) = .ok ((k : Int) * ((lj n c 0 : Int) + 1)) := by
      unfold mulR
      rw [Int.zero_add, R.need_pos (.inl ⟨by omega, by omega⟩)]
    rw [hmul]
    simp only [R.bind_ok]
    have hpl : ((lj n c 0 : Int) + (k : Int) * ((lj n c 0 : Int) + 1)) = ((lj n c 0 + k * (lj n c 0 + 1) : Nat) : Int) := by simp
    rw [hpl, holds_bindC]
    refine holds_ix (fun v j => v = tak n c bs (lj n c 0 + k * (lj n c 0 + 1)) j) _ _ (by simp [tak]) (fun v j a ha h => ?_) (fun v h => ?_)
    · subst h
      rw [enumI_get] at ha
      obtain ⟨r, hr, rfl⟩ := Option.map_eq_some_iff.mp ha
      have hj : j < c := by
        have := get_lt hr
        simpa [chL] using this
      rw [ch_at hj] at hr
      cases hr
      simp only [blk_len]
      have hjl := lj_le n c j
      rw [R.need_pos (by omega)]
      simp only [R.bind_ok, Int.toNat_natCast]
      rw [R.lcR_mapOn (v := fun b : Int => vl bs (lj n c 0 + k * (lj n c 0 + 1)) b.toNat j) (by rw [rangeI_len]; omega) (fun b hb => ?_)]
      · simp only [R.nox_ok, R.bind_ok]
        have e : (rangeI 0 (lj n c j)).map (fun b : Int => vl bs (lj n c 0 + k * (lj n c 0 + 1)) b.toNat j) = TT n c bs (lj n c 0 + k * (lj n c 0 + 1)) j := by
          rw [rangeI0_map]
          rfl
        rw [e, R.need_pos (by
          rw [tak_len, List.length_reverse, TT_len]
          have := st_mono (n := n) (c := c) (show j ≤ c by omega)
          rw [st_end (by omega)] at this
          omega), holds_ok, onF_nx, tak_succ]
      · obtain ⟨b, hb', rfl⟩ := rangeI_mem.mp hb
        obtain ⟨w, h1, h2⟩ := at_val g hm hk hj hb'
        have e1 : ((((lj n c 0 + k * (lj n c 0 + 1) : Nat) : Int) + 1) + (0 + (b : Int))) = ((lj n c 0 + k * (lj n c 0 + 1) + 1 + b : Nat) : Int) := by omega
        rw [e1, ixR_nat h1]
        simp only [R.bind_ok]
        rw [ixR_nat h2, show (0 + (b : Int)).toNat = b by omega]
    · subst h
      rw [onC_nx]
      have : (enumI (chL n c)).length = c := by rw [enumI_len]; simp [chL]
      rw [this]
      obtain ⟨w, h1, h2, h3⟩ := at_clock g hm hk
      rw [ixR_nat h1]
      simp only [R.bind_ok]
      rw [catR_ok (by rw [tak_len, st_end (by omega)]; omega)]
      simp only [R.bind_ok]
      rw [R.need_pos (by simp; omega), holds_ok, onF_nx, List.range_succ, List.map_append, h2]
      rfl
  · subst h
    rw [onC_nx, holds_ok, onR_rt]
theorem set_mid {pre r : List Int} {a i : Nat} {v : Int} (h : i = pre.length + a) : (pre ++ (List.replicate (a + 1) 0 ++ r)).set i v = pre ++ (List.replicate a 0 ++ v :: r) := by
  subst h
  rw [List.set_append_right _ _ (by omega), Nat.add_sub_cancel_left, List.replicate_succ', List.append_assoc, List.set_append_right _ _ (by simp)]
  simp
theorem due_ok2 {n c o : Nat} {bs : List (List Int)} {m : Nat} (hn : n < 8) (c0 : 1 ≤ c) (c1 : c ≤ max 1 n) (g : Good bs o c (lj n c 0)) (hm : bs.length = lj n c 0 + m * (lj n c 0 + 1)) (ho : o < 4) (hN : bs.length ≤ 1000) (hf : ∀ d ∈ bs.map (eT eI), fine d) (hg : good (bs.map (eT eI)) o c (lj n c 0) = true) : m_law_due (chL n c) (o : Int) (n : Int) (bs.map (eT eI)) = .ok (eL (eT eI) ((List.range m).map (row n c bs))) := by
  rw [← holds_eq]
  unfold m_law_due b_law_due
  have hml := many_le hm
  have hL : lj n c 0 ≤ 8 := by
    have := st_mono (n := n) (c := c) (show 0 + 1 ≤ c by omega)
    rw [st_end (by omega)] at this
    unfold lj
    omega
  have hcl : (chL n c).length = c := by simp [chL]
  unfold good at hg
  rw [Bool.and_eq_true, Bool.and_eq_true, List.length_map, decide_eq_true_eq, decide_eq_true_eq] at hg
  simp only [holds_fin, R.bind_ok, ch0 (show 0 < c by omega), blk_len, List.length_map, hcl]
  rw [decide_eq_false (p := ((bs.length : Int) < (lj n c 0 : Int))) (by omega)]
  have hmd : modR ((bs.length : Int) - (lj n c 0 : Int)) ((lj n c 0 : Int) + 1) = .ok 0 := by
    unfold modR
    rw [R.need_pos (by omega), hg.1.2]
  simp only [Bool.false_eq_true, if_false, hmd, R.bind_ok, decide_true, Bool.not_true]
  rw [R.need_pos (by omega)]
  simp only [R.bind_ok, Int.toNat_natCast]
  rw [for_find (p := fun _ => true) (b := eS "refused") fun k hk => ?_]
  · rw [show ((rangeI 0 bs.length).all fun _ => true) = true by simp]
    simp only [if_true, R.bindC_nx, enc_logs, (as_list (as_tup as_int)).mk, ofO_some, R.bind_ok]
    have hst : rng3R (lj n c 0 : Int) (bs.length : Int) ((lj n c 0 : Int) + 1) = .ok (stepsI (lj n c 0 : Int) ((lj n c 0 : Int) + 1) m) := by
      unfold rng3R
      rw [R.need_pos (by omega)]
      congr 2
      unfold rgN
      have hd := div_many hm
      split
      · rename_i hlt
        have hm0 : 0 < m := by
          cases m with
          | zero => simp at hm; omega
          | succ m => omega
        have e : ((bs.length : Int) - (lj n c 0 : Int) - 1) / ((lj n c 0 : Int) + 1) = (m : Int) - 1 := by
          rw [hm]
          have e2 : ((lj n c 0 + m * (lj n c 0 + 1) : Nat) : Int) - (lj n c 0 : Int) - 1 = (lj n c 0 : Int) + ((m : Int) - 1) * ((lj n c 0 : Int) + 1) := by
            simp
            rw [Int.sub_mul]
            omega
          rw [e2, Int.add_mul_ediv_right _ _ (by omega), Int.ediv_eq_zero_of_lt (by omega) (by omega)]
          omega
        rw [e]
        omega
      · rename_i hlt
        have : m * (lj n c 0 + 1) = 0 := by omega
        rcases Nat.mul_eq_zero.mp this with h | h <;> omega
    rw [hst]
    simp only [R.bind_ok]
    rw [holds_bindC]
    refine holds_ix (fun v i => v = (List.range i).map (row n c bs)) _ _ rfl (fun v k a ha h => ?_) (fun v h => ?_)
    · subst h
      have hk : k < m := by
        have := get_lt ha
        rwa [stepsI_len] at this
      rw [stepsI_get hk] at ha
      cases ha
      have hpl : ((lj n c 0 : Int) + (k : Int) * ((lj n c 0 : Int) + 1)) = ((lj n c 0 + k * (lj n c 0 + 1) : Nat) : Int) := by simp
      rw [hpl, repLR_ok (by omega)]
      simp only [R.bind_ok, Int.toNat_natCast]
      rw [R.need_pos (by omega)]
      simp only [R.bind_ok]
      rw [holds_bindC]
      refine holds_rng (fun v j => v = tak n c bs (lj n c 0 + k * (lj n c 0 + 1)) j ++ List.replicate (n - st n c j) 0) 0 c _ (by simp [tak, st]) (fun v j hj h => ?_) (fun v h => ?_)
      · subst h
        rw [Int.zero_add, ixR_nat (ch_at hj)]
        simp only [R.bind_ok, blk_len]
        have hjl := lj_le n c j
        have hsj := st_next n c j
        have hse : st n c (j + 1) ≤ n := by
          have := st_mono (n := n) (c := c) (show j + 1 ≤ c by omega)
          rwa [st_end (by omega)] at this
        rw [R.need_pos (by omega)]
        simp only [R.bind_ok, Int.toNat_natCast]
        rw [holds_bindC]
        refine holds_rng (fun v i => v = tak n c bs (lj n c 0 + k * (lj n c 0 + 1)) j ++ (List.replicate (lj n c j - i) 0 ++ (((TT n c bs (lj n c 0 + k * (lj n c 0 + 1)) j).take i).reverse ++ List.replicate (n - st n c (j + 1)) 0))) 0 (lj n c j) _ ?_ (fun v i hi h => ?_) (fun v h => ?_)
        · simp only [Nat.sub_zero, List.take_zero, List.reverse_nil, List.nil_append]
          rw [List.replicate_append_replicate]
          congr 2
          omega
        · subst h
          obtain ⟨w, h1, h2⟩ := at_val g hm hk hj hi
          have e1 : ((((lj n c 0 + k * (lj n c 0 + 1) : Nat) : Int) + 1) + (0 + (i : Int))) = ((lj n c 0 + k * (lj n c 0 + 1) + 1 + i : Nat) : Int) := by omega
          rw [e1, ixR_nat h1]
          simp only [R.bind_ok]
          rw [ixR_nat h2]
          simp only [R.bind_ok]
          have e2 : ((lj n c j : Int) - 1) - (0 + (i : Int)) = ((lj n c j - 1 - i : Nat) : Int) := by omega
          rw [e2, ixR_nat (a := ((st n c j + (lj n c j - 1 - i) : Nat) : Int)) (by
            unfold blk
            rw [rangeI_get (by unfold lj at *; omega)]
            simp)]
          simp only [R.bind_ok]
          have hT : (TT n c bs (lj n c 0 + k * (lj n c 0 + 1)) j).take (i + 1) = (TT n c bs (lj n c 0 + k * (lj n c 0 + 1)) j).take i ++ [vl bs (lj n c 0 + k * (lj n c 0 + 1)) i j] := by
            rw [List.take_add_one]
            congr 1
            unfold TT
            rw [List.getElem?_map, List.getElem?_range hi]
            rfl
          rw [setR_ok (by omega) (by
            simp only [List.length_append, tak_len, List.length_replicate, List.length_reverse, List.length_take, TT_len]
            omega)]
          simp only [R.bind_ok]
          rw [holds_ok, onF_nx, hT, List.reverse_append, show lj n c j - i = (lj n c j - (i + 1)) + 1 by omega, set_mid (by rw [tak_len]; omega)]
          rfl
        · subst h
          rw [onC_nx, holds_ok, onF_nx, tak_succ, Nat.sub_self, List.take_of_length_le (by rw [TT_len]; omega)]
          simp
      · subst h
        rw [onC_nx, st_end (by omega), Nat.sub_self, List.replicate_zero, List.append_nil]
        obtain ⟨w, h1, h2, h3⟩ := at_clock g hm hk
        rw [ixR_nat h1]
        simp only [R.bind_ok]
        rw [catR_ok (by rw [tak_len, st_end (by omega)]; omega)]
        simp only [R.bind_ok]
        rw [R.need_pos (by simp; omega), holds_ok, onF_nx, List.range_succ, List.map_append, h2]
        rfl
    · subst h
      rw [onC_nx, stepsI_len, holds_ok, onR_rt]
  · obtain ⟨i, hi, rfl⟩ := rangeI_mem.mp hk
    have hi2 : i < (bs.map (eT eI)).length := by simpa using hi
    rw [Int.zero_add]
    unfold modR
    rw [R.need_pos (by omega)]
    simp only [R.bind_ok]
    rw [ixR_nat (List.getElem?_eq_getElem hi2)]
    simp only [R.bind_ok]
    rw [law_bits_ok (hf _ (List.getElem_mem hi2))]
    have := List.all_eq_true.mp hg.2 ((i : Int), (bs.map (eT eI))[i]) (List.mem_of_getElem? (i := i) (by rw [enumI_get, List.getElem?_eq_getElem hi2]; rfl))
    show (R.bind (R.bind (R.nox (R.ok (isBits (bs.map (eT eI))[i] (wd o c (lj n c 0) i)))) _) _) = _
    rw [this]
    rfl
end
end CC

set_option maxHeartbeats 1000000
namespace CC
open PySem PySem.Spec PyProof.Rows L2 Qw Mw RZ
open Evl hiding ea_cons
open Pw (Dt Rp RpL Wk R2d R1d RLd RLn Kq KqL spX2 Xm Xm0 cr_int cr_min2 cr_max2 cr_list cr_tuple rTupS cr_len pe_globI pe_globS pe_globR pe_tyname)
section
variable {P : Program} {w : World} {K : PySem.W.Frag} {mg : Str → Option Value} {base : Heap}

open Mw
end
section
theorem bits_of_ok {d : Dr} {n : Nat} (hn : n ≤ 1000) : Holds (m_law_bits_of d (n : Int)) fun q => q.1.length = n := by
  unfold m_law_bits_of b_law_bits_of
  simp only [holds_fin, R.bind_ok]
  rw [R.need_pos (by omega)]
  simp only [R.bind_ok, R.bind2_ok, holds_bind2, holds_nox, Int.toNat_natCast]
  refine holds_lcS (fun _ => True) (fun _ _ => True) (by rw [rangeI_len]; omega) trivial (fun a ha s _ => ?_) (fun l s' hl _ _ => ?_)
  · simp only [holds_bind2, holds_nox, holds_ok, m_law_draw]
    exact holds_draw (by omega) (by omega) fun v d' _ _ => ⟨trivial, trivial⟩
  · rw [holds_ok, onR_rt]
    rw [rangeI_len] at hl
    exact hl
def BOk (d : Dt) : Prop := ∃ b : List Int, d = eT eI b ∧ b.length ≤ 8
def LOk (l : List Dt) : Prop := ∀ d ∈ l, BOk d
theorem fine_ints {b : List Int} (h : b.length ≤ 1000) : fine (eT eI b) := ⟨by simp; omega, fun x hx => by
  obtain ⟨i, _, rfl⟩ := List.mem_map.mp hx
  rfl⟩
theorem BOk.fine {d : Dt} (h : BOk d) : fine d := by
  obtain ⟨b, rfl, hb⟩ := h
  exact fine_ints (by omega)
theorem logs_ok {n c : Nat} {s : Dr} {L : Nat} {Q : List Dt × Dr → Prop} (hc : c ≤ 8) (hL : L ≤ 100) (hq : ∀ l s', LOk l → l.length = L → Q (l, s')) : Holds (R.nox (R.lcS (rangeI 0 L) s (fun k_45 s_47 => (R.ok (true, s_47))) (fun k_45 s_47 => (R.bind2 (R.bind2 (R.bind (R.ok ((c : Int), ())) fun a_ => R.ok (a_, s_47)) fun t_48 s_49 => R.bind2 (R.nox (m_law_bits_of s_49 t_48.1)) fun z_ y_ => R.ok (z_, y_)) fun t_50 s_51 => R.ok ((eT eI) t_50, s_51))))) Q := by
  rw [holds_nox]
  refine holds_lcS (fun _ => True) (fun _ d => BOk d) (by rw [rangeI_len]; omega) trivial (fun a ha s _ => ?_) (fun l s' hl hr _ => ?_)
  · simp only [R.bind_ok, R.bind2_ok, holds_bind2, holds_nox, holds_ok]
    exact (bits_of_ok (by omega)).imp fun q hq => ⟨⟨_, rfl, by omega⟩, trivial⟩
  · rw [rangeI_len] at hl
    refine hq l s' (fun d hd => ?_) hl
    obtain ⟨i, hi⟩ := List.getElem?_of_mem hd
    have hi2 := get_lt hi
    exact hr i _ d (rangeI_get (by omega)) hi
theorem cut_le {α : Type} {xs : List α} {a b : Option Int} : (cutR xs a b).length ≤ xs.length := by
  unfold cutR
  rw [List.length_take, List.length_drop]
  omega
theorem asBits (b : List Int) : (asT asI) (eT eI b) = some b := (as_tup as_int).mk b
theorem changed_ok {d : Dr} {log : List Dt} (h : LOk log) (hN : log.length ≤ 900) : Holds (m_law_changed d log) fun q => (∀ x ∈ q.1, fine x) ∧ q.1.length ≤ 1000 := by
  unfold m_law_changed b_law_changed
  simp only [holds_fin, R.bind_ok, R.bind2_ok, holds_bind2, holds_bind, holds_nox, holds_ok, m_law_draw]
  refine holds_draw (by omega) (by omega) fun a s1 a0 a1 => ?_
  obtain ⟨a, rfl⟩ : ∃ z : Nat, a = (z : Int) := ⟨a.toNat, by omega⟩
  refine Holds.imp (Q := BOk) ?_ (fun e he => ?_)
  · split
    · rename_i hlt
      have hlt := of_decide_eq_true hlt
      have hlt : a < log.length := by omega
      exact .of (ixR_nat (List.getElem?_eq_getElem hlt)) (h _ (List.getElem_mem hlt))
    · exact holds_ok.mpr ⟨[1], rfl, by simp⟩
  obtain ⟨b, rfl, hb⟩ := he
  rw [asBits]
  simp only [R.ofO, holds_ok]
  refine holds_draw (by omega) (by omega) fun k s2 k0 k1 => ?_
  have hto : cutR log none (some (a : Int)) = log.take a := cutR_to
  have hfr : cutR log (some ((a : Int) + 1)) none = log.drop (a + 1) := by rw [show (a : Int) + 1 = ((a + 1 : Nat) : Int) by simp]; exact cutR_from
  have hfr0 : cutR log (some (a : Int)) none = log.drop a := cutR_from
  rw [hto, hfr, hfr0]
  have hft : ∀ x ∈ log.take a, fine x := fun x hx => (h x (List.mem_of_mem_take hx)).fine
  have hfd : ∀ n, ∀ x ∈ log.drop n, fine x := fun n x hx => (h x (List.mem_of_mem_drop hx)).fine
  rw [holds_if]
  refine ⟨fun _ => ?_, fun h0 => ?_⟩
  · simp only [holds_bind2, holds_bind, holds_ok]
    rw [catR_ok (by simp only [List.length_take, List.length_drop]; omega)]
    simp only [holds_ok, onR_rt]
    exact ⟨fun x hx => (List.mem_append.mp hx).elim (hft x) (hfd _ x), by simp only [List.length_append, List.length_take, List.length_drop]; omega⟩
  have h0 : k ≠ 0 := fun z => h0 (by rw [z]; rfl)
  simp only [holds_bind, holds_ok]
  rw [holds_if]
  refine ⟨fun _ => ?_, fun h1 => ?_⟩
  · simp only [holds_bind2, holds_bind, holds_ok]
    rw [catR_ok (by simp only [List.length_take, List.length_cons, List.length_nil]; omega)]
    simp only [holds_ok]
    rw [catR_ok (by simp only [List.length_append, List.length_take, List.length_drop, List.length_cons, List.length_nil]; omega)]
    simp only [holds_ok, onR_rt]
    refine ⟨fun x hx => (List.mem_append.mp hx).elim (fun hx => (List.mem_append.mp hx).elim (hft x) fun hx => ?_) (hfd _ x), by simp only [List.length_append, List.length_take, List.length_drop, List.length_cons, List.length_nil]; omega⟩
    cases List.mem_singleton.mp hx
    exact fine_ints (by omega)
  have h1 : k ≠ 1 := fun z => h1 (by rw [z]; rfl)
  have hcl : (cutR b none (some (-1 : Int))).length ≤ 8 := Nat.le_trans cut_le hb
  have c1 : catR b [(0 : Int)] = .ok (b ++ [0]) := catR_ok (by simp only [List.length_cons, List.length_nil]; omega)
  have c2 : catR (cutR b none (some (-1 : Int))) [(2 : Int)] = .ok (cutR b none (some (-1 : Int)) ++ [2]) := catR_ok (by simp only [List.length_cons, List.length_nil]; omega)
  have c3 : catR (List.map eI (cutR b none (some (-1 : Int)))) [eB true] = .ok (List.map eI (cutR b none (some (-1 : Int))) ++ [eB true]) := catR_ok (by simp only [List.length_map, List.length_cons, List.length_nil]; omega)
  simp only [c1, c2, c3, R.bind_ok, holds_bind2, holds_bind, holds_ok]
  generalize hw : ([eT eI (b ++ [0]), eT eI (cutR b none (some (-1))), eL eI b, eU (), eT eI (cutR b none (some (-1)) ++ [2]), eT eD (List.map eI (cutR b none (some (-1))) ++ [eB true])] : List Dt) = wrong
  have hwf : ∀ x ∈ wrong, fine x := fun x hx => by
    subst hw
    simp only [List.mem_cons, List.not_mem_nil, or_false] at hx
    rcases hx with rfl | rfl | rfl | rfl | rfl | rfl
    · exact fine_ints (by simp; omega)
    · exact fine_ints (by omega)
    · exact rfl
    · exact rfl
    · exact fine_ints (by simp; omega)
    · refine ⟨by simp; omega, fun x hx => ?_⟩
      have e : (List.map eI (cutR b none (some (-1))) ++ [eB true]).map eD = List.map eI (cutR b none (some (-1))) ++ [eB true] := List.map_id _
      rw [e] at hx
      rcases List.mem_append.mp hx with hx | hx
      · obtain ⟨i, _, rfl⟩ := List.mem_map.mp hx
        rfl
      · cases List.mem_singleton.mp hx
        rfl
  have hwl : wrong.length = 6 := by rw [← hw]; rfl
  refine Holds.imp (Q := fun x => x ∈ wrong) ?_ fun x hx => ?_
  · have hlt : (k - 2).toNat < wrong.length := by omega
    exact .of (ixR_ok (j := (k - 2).toNat) (by omega) (List.getElem?_eq_getElem hlt)) (List.getElem_mem hlt)
  rw [catR_ok (by simp only [List.length_take, List.length_cons, List.length_nil]; omega)]
  simp only [holds_ok]
  rw [catR_ok (by simp only [List.length_append, List.length_take, List.length_drop, List.length_cons, List.length_nil]; omega)]
  simp only [holds_ok, onR_rt]
  refine ⟨fun x hx => (List.mem_append.mp hx).elim (fun hx => (List.mem_append.mp hx).elim (hft x) fun hx => ?_) (hfd _ x), by simp only [List.length_append, List.length_take, List.length_drop, List.length_cons, List.length_nil]; omega⟩
  cases List.mem_singleton.mp hx
  exact hwf _ (by assumption)
theorem L_le {n c : Nat} (hn : n < 8) (c0 : 1 ≤ c) : lj n c 0 ≤ 8 := by
  have := st_mono (n := n) (c := c) (show 0 + 1 ≤ c by omega)
  rw [st_end (by omega)] at this
  unfold lj
  omega
theorem both {p : CV} {n c o : Nat} {log : List Dt} (hp : p.1.rs.length = n) (hos : p.1.os.length = o) (hn : n < 8) (ho : o < 4) (c0 : 1 ≤ c) (c1 : c ≤ max 1 n) (hf : ∀ d ∈ log, fine d) (hN : log.length ≤ 1000) :
    (m_read_back p (c : Int) log = .ex bad ∧ m_law_due (chL n c) (o : Int) (n : Int) log = .ok (eS "refused")) ∨ ∃ rows : List (List Int), m_read_back p (c : Int) log = .ok rows ∧ m_law_due (chL n c) (o : Int) (n : Int) log = .ok (eL (eT eI) rows) ∧ rows.length ≤ 1000 ∧ ∀ r ∈ rows, r.length ≤ 100 := by
  have hL := L_le hn c0
  have hck := check_log_ok (p := p) (c := (c : Int)) (L := lj n c 0) hos hf hN (by omega)
  cases hg : good log o c (lj n c 0) with
  | false =>
    refine .inl ⟨?_, due_ok1 (ch0 (show 0 < c by omega)) (blk_len n c 0) (by simp [chL]) hf hN (by omega) hg⟩
    rw [hg] at hck
    unfold m_read_back b_read_back
    simp only [R.bind_ok, chains_ok p hp (by omega) c0 c1, ch0 (show 0 < c by omega), blk_len, hck]
    rfl
  | true =>
    rw [hg] at hck
    simp only [if_true] at hck
    obtain ⟨bs, rfl, g⟩ := good_enc hg
    obtain ⟨m, hm⟩ := g.md
    rw [List.length_map] at hN hck
    refine .inr ⟨(List.range m).map (row n c bs), read_ok hp hn c0 c1 g hm ho hN hck, due_ok2 hn c0 c1 g hm ho hN hf hg, ?_, fun r hr => ?_⟩
    · have := many_le hm
      simp
      omega
    · obtain ⟨k, hk, rfl⟩ := List.mem_map.mp hr
      obtain ⟨w, h1, h2, h3⟩ := at_clock g hm (List.mem_range.mp hk)
      unfold row
      rw [List.length_append, tak_len, ← h2, h3, st_end (by omega)]
      omega
theorem samRows : SamB 4 (eL (eT eI)) (fun ys => ys.length ≤ 100000 ∧ ∀ y ∈ ys, y.length ≤ 100000 ∧ ∀ z ∈ y, True) := samB_lst (samB_tup samE_int.b)
theorem law_true (xs : List Int) : m_law xs = .ok true := by
  rw [← holds_eq]
  unfold m_law b_law
  simp only [holds_fin, R.bind_ok, R.bind2_ok, holds_bind, holds_bind2, holds_ok, holds_nox, holds_need, m_law_draws, m_law_draw]
  refine holds_draw (by omega) (by omega) fun nz d1 n0 n1 => ?_
  obtain ⟨n, rfl⟩ : ∃ n : Nat, nz = (n : Int) := ⟨nz.toNat, by omega⟩
  have hn : n < 8 := by omega
  refine holds_draw (by omega) (by omega) fun oz d2 o0 o1 => ?_
  obtain ⟨o, rfl⟩ : ∃ o : Nat, oz = (o : Int) := ⟨oz.toNat, by omega⟩
  have ho : o < 4 := by omega
  refine ⟨by omega, ?_⟩
  rw [Int.toNat_natCast]
  refine holds_map (fun k => (("r" : Str) ++ strI k, ("a" : Str))) (by rw [rangeI_len]; omega) (fun k hk => ?_) ?_
  · obtain ⟨i, hi, rfl⟩ := rangeI_mem.mp hk
    have hl := of_decide_eq_true (List.all_eq_true.mp okLen i (List.mem_range.mpr (by omega)))
    rw [Int.zero_add]
    unfold strR addSR
    rw [R.need_pos (by omega)]
    simp only [R.bind_ok]
    rw [R.need_pos hl]
    rfl
  rw [show (rangeI 0 n).map (fun k => (("r" : Str) ++ strI k, ("a" : Str))) = regs n from rangeI0_map, repTR_1 (by omega)]
  simp only [holds_ok, Int.toNat_natCast]
  obtain ⟨p, ep, hp, hos⟩ := circ_ok hn ho
  rw [ep]
  simp only [holds_ok]
  rw [max_eq]
  refine holds_draw (by omega) (by omega) fun cz d3 e0 e1 => ?_
  obtain ⟨c, hc⟩ : ∃ z : Nat, 1 + cz = (z : Int) := ⟨(1 + cz).toNat, by omega⟩
  rw [hc]
  have c0 : 1 ≤ c := by omega
  have c1 : c ≤ max 1 n := by omega
  rw [law_chains_ok (by omega) c0 c1]
  simp only [holds_ok]
  have hL := L_le hn c0
  rw [ch0 (show 0 < c by omega)]
  simp only [holds_ok, blk_len, R.bind_ok]
  refine ⟨by omega, ?_⟩
  rw [Int.toNat_natCast, ← holds_nox]
  refine logs_ok (n := n) (by omega) (by omega) fun l d4 hl hll => ?_
  refine holds_draw (by omega) (by omega) fun kz d5 k0 k1 => ?_
  refine ⟨by omega, ?_⟩
  rw [holds_bindC]
  refine holds_ix (fun v i => LOk v.2 ∧ v.2.length ≤ 8 + 9 * i) _ _ ⟨hl, by show l.length ≤ _; omega⟩ (fun v i a ha hv => ?_) (fun v hv => ?_)
  · have hi := get_lt ha
    rw [rangeI_len] at hi
    obtain ⟨hv1, hv2⟩ := hv
    simp only [holds_bind2, holds_bind, holds_nox, holds_ok, holds_need]
    refine (bits_of_ok (by omega)).imp fun q hq => ?_
    refine ⟨by rw [List.length_map]; omega, ?_⟩
    refine ⟨by omega, ?_⟩
    rw [← holds_nox]
    refine logs_ok (n := n) (by omega) (by omega) fun l2 d6 hl2 hll2 => ?_
    refine ⟨by simp; omega, ?_⟩
    rw [onF_nx]
    refine ⟨fun d hd => ?_, ?_⟩
    · rcases List.mem_append.mp hd with hd | hd
      · rcases List.mem_append.mp hd with hd | hd
        · exact hv1 d hd
        · cases List.mem_singleton.mp hd
          exact ⟨_, rfl, by omega⟩
      · exact hl2 d hd
    · show ((v.2 ++ [eT eI q.1]) ++ l2).length ≤ _
      simp only [List.length_append, List.length_cons, List.length_nil]
      omega
  obtain ⟨hv1, hv2⟩ := hv
  rw [rangeI_len] at hv2
  rw [onC_nx, holds_bindC]
  refine Holds.imp (Q := fun z => ∃ lg dd, z = .nx (lg, dd) ∧ (∀ x ∈ lg, fine x) ∧ lg.length ≤ 1000) ?_ fun z hz => ?_
  · simp only [holds_bind2, holds_bind, holds_nox, holds_ok]
    refine holds_draw (by omega) (by omega) fun g d7 _ _ => ?_
    rw [holds_if]
    refine ⟨fun _ => ?_, fun _ => ?_⟩
    · simp only [holds_bind2, holds_bind, holds_nox, holds_ok]
      exact (changed_ok hv1 (by omega)).imp fun q hq => ⟨_, _, rfl, hq⟩
    · exact holds_ok.mpr ⟨_, _, rfl, fun x hx => (hv1 x hx).fine, by omega⟩
  obtain ⟨lg, dd, rfl, hf, hN⟩ := hz
  rw [onC_nx]
  rcases both hp hos hn ho c0 c1 hf hN with ⟨h1, h2⟩ | ⟨rows, h1, h2, h3, h4⟩
  · simp only [R.bind_ok, holds_bind, holds_nox, holds_ok]
    rw [h2]
    simp only [holds_ok]
    rw [h1, holds_bindC]
    refine holds_caught (x := bad) rfl rfl ?_
    rw [show asS (eS "refused") = some ("refused" : Str) from rfl]
    simp only [ofO_some, R.bind_ok, holds_ok]
    rfl
  · simp only [R.bind_ok, holds_bind, holds_nox, holds_ok]
    rw [h2]
    simp only [holds_ok]
    rw [h1, holds_bindC]
    refine holds_catch ?_
    simp only [R.bind_ok, holds_ok, onC_nx, holds_bind, holds_nox]
    have hs : sameN 6 (eL (eT eI) rows) (eL (eT eI) rows) = .ok (decide (rows = rows)) := samRows 6 (by omega) _ _ ⟨by omega, fun y hy => ⟨by have := h4 y hy; omega, fun _ _ => trivial⟩⟩
    rw [hs, decide_eq_true rfl]
    simp only [holds_ok, onR_rt]
end
end CC

set_option maxHeartbeats 400000
namespace CC
open PySem PySem.Spec PyProof.Rows L2 Qw Mw
open Evl hiding ea_cons
open Pw (Dt Rp RpL Wk spX2 Xm Xm0)
section
variable {P : Program} {w : World} {K : PySem.W.Frag} {mg : Str → Option Value} {base : Heap}
abbrev s_iBadCircuit : Stmt := meth 3 0
def dd_is_name : He.DefD := ⟨("is_name", none), "is_name", "is_name", defArgs s_is_name, defBody s_is_name, defScope s_is_name, [], []⟩
def dd_may_have : He.DefD := ⟨("_may_have", none), "_may_have", "_may_have", defArgs s_may_have, defBody s_may_have, defScope s_may_have, [], []⟩
def dd_are_names : He.DefD := ⟨("_are_names", none), "_are_names", "_are_names", defArgs s_are_names, defBody s_are_names, defScope s_are_names, [], []⟩
def dd_is_register : He.DefD := ⟨("_is_register", none), "_is_register", "_is_register", defArgs s_is_register, defBody s_is_register, defScope s_is_register, [], []⟩
def dd_is_gate : He.DefD := ⟨("is_gate", none), "is_gate", "is_gate", defArgs s_is_gate, defBody s_is_gate, defScope s_is_gate, [], []⟩
def dd_check_form : He.DefD := ⟨("_check_form", none), "_check_form", "_check_form", defArgs s_check_form, defBody s_check_form, defScope s_check_form, [], []⟩
def dd_check_driven_once : He.DefD := ⟨("_check_driven_once", none), "_check_driven_once", "_check_driven_once", defArgs s_check_driven_once, defBody s_check_driven_once, defScope s_check_driven_once, [], []⟩
def dd_check_known : He.DefD := ⟨("_check_known", none), "_check_known", "_check_known", defArgs s_check_known, defBody s_check_known, defScope s_check_known, [], []⟩
def dd_check_size : He.DefD := ⟨("_check_size", none), "_check_size", "_check_size", defArgs s_check_size, defBody s_check_size, defScope s_check_size, [], []⟩
def dd_in_order : He.DefD := ⟨("_in_order", none), "_in_order", "_in_order", defArgs s_in_order, defBody s_in_order, defScope s_in_order, [], []⟩
def dd_Circuit_lines : He.DefD := ⟨("Circuit", some "lines"), "lines", "Circuit.lines", defArgs s_Circuit_lines, defBody s_Circuit_lines, defScope s_Circuit_lines, [], []⟩
def dd_Circuit_sources : He.DefD := ⟨("Circuit", some "sources"), "sources", "Circuit.sources", defArgs s_Circuit_sources, defBody s_Circuit_sources, defScope s_Circuit_sources, [], []⟩
def dd_Circuit_init : He.DefD := ⟨("Circuit", some "__init__"), "__init__", "Circuit.__init__", defArgs s_Circuit_init, defBody s_Circuit_init, defScope s_Circuit_init, [], []⟩
def dd_Circuit_parts : He.DefD := ⟨("Circuit", some "parts"), "parts", "Circuit.parts", defArgs s_Circuit_parts, defBody s_Circuit_parts, defScope s_Circuit_parts, [], []⟩
def dd_is_integer : He.DefD := ⟨("is_integer", none), "is_integer", "is_integer", defArgs s_is_integer, defBody s_is_integer, defScope s_is_integer, [], []⟩
def dd_is_bit : He.DefD := ⟨("is_bit", none), "is_bit", "is_bit", defArgs s_is_bit, defBody s_is_bit, defScope s_is_bit, [], []⟩
def dd_are_bits : He.DefD := ⟨("are_bits", none), "are_bits", "are_bits", defArgs s_are_bits, defBody s_are_bits, defScope s_are_bits, [], []⟩
def dd_chains : He.DefD := ⟨("chains", none), "chains", "chains", defArgs s_chains, defBody s_chains, defScope s_chains, [], []⟩
def dd_check_bits : He.DefD := ⟨("_check_bits", none), "_check_bits", "_check_bits", defArgs s_check_bits, defBody s_check_bits, defScope s_check_bits, [], []⟩
def dd_check_log : He.DefD := ⟨("_check_log", none), "_check_log", "_check_log", defArgs s_check_log, defBody s_check_log, defScope s_check_log, [], []⟩
def dd_read_back : He.DefD := ⟨("read_back", none), "read_back", "read_back", defArgs s_read_back, defBody s_read_back, defScope s_read_back, [], []⟩
def dd_law_draws : He.DefD := ⟨("_law_draws", none), "_law_draws", "_law_draws", defArgs s_law_draws, defBody s_law_draws, defScope s_law_draws, [], []⟩
def dd_law_draw : He.DefD := ⟨("_law_draw", none), "_law_draw", "_law_draw", defArgs s_law_draw, defBody s_law_draw, defScope s_law_draw, [], []⟩
def dd_law_same : He.DefD := ⟨("_law_same", none), "_law_same", "_law_same", defArgs s_law_same, defBody s_law_same, defScope s_law_same, [], []⟩
def dd_law_chains : He.DefD := ⟨("_law_chains", none), "_law_chains", "_law_chains", defArgs s_law_chains, defBody s_law_chains, defScope s_law_chains, [], []⟩
def dd_law_bits_of : He.DefD := ⟨("_law_bits_of", none), "_law_bits_of", "_law_bits_of", defArgs s_law_bits_of, defBody s_law_bits_of, defScope s_law_bits_of, [], []⟩
def dd_law_is_bits : He.DefD := ⟨("_law_is_bits", none), "_law_is_bits", "_law_is_bits", defArgs s_law_is_bits, defBody s_law_is_bits, defScope s_law_is_bits, [], []⟩
def dd_law_due : He.DefD := ⟨("_law_due", none), "_law_due", "_law_due", defArgs s_law_due, defBody s_law_due, defScope s_law_due, [], []⟩
def dd_law_changed : He.DefD := ⟨("_law_changed", none), "_law_changed", "_law_changed", defArgs s_law_changed, defBody s_law_changed, defScope s_law_changed, [], []⟩
def dd_law : He.DefD := ⟨("law", none), "law", "law", defArgs s_law, defBody s_law, defScope s_law, [], []⟩
def dd_iBadCircuit : He.DefD := ⟨("BadCircuit", some "__init__"), "__init__", "BadCircuit.__init__", defArgs s_iBadCircuit, defBody s_iBadCircuit, defScope s_iBadCircuit, [], []⟩
def fnL : List He.DefD := [dd_is_name, dd_may_have, dd_are_names, dd_is_register, dd_is_gate, dd_check_form, dd_check_driven_once, dd_check_known, dd_check_size, dd_in_order, dd_Circuit_lines, dd_Circuit_sources, dd_Circuit_init, dd_Circuit_parts, dd_is_integer, dd_is_bit, dd_are_bits, dd_chains, dd_check_bits, dd_check_log, dd_read_back, dd_law_draws, dd_law_draw, dd_law_same, dd_law_chains, dd_law_bits_of, dd_law_is_bits, dd_law_due, dd_law_changed, dd_law, dd_iBadCircuit]
def faL : List He.Fa := [.glo "is_name", .glo "_may_have", .glo "_are_names", .glo "_is_register", .glo "is_gate", .glo "_check_form", .glo "_check_driven_once", .glo "_check_known", .glo "_check_size", .glo "_in_order", .glo "Circuit", .meth "Circuit" "lines", .meth "Circuit" "sources", .mkr "Circuit", .meth "Circuit" "parts", .glo "is_integer", .glo "is_bit", .glo "are_bits", .glo "chains", .glo "_check_bits", .glo "_check_log", .glo "read_back", .glo "_law_draws", .glo "_law_draw", .glo "_law_same", .glo "_law_chains", .glo "_law_bits_of", .glo "_law_is_bits", .glo "_law_due", .glo "_law_changed", .glo "law", .glo "BadTester", .glo "BadCircuit", .exc "BadTester", .noat "BadCircuit" "reason", .noat "BadCircuit" "name", .glo "KINDS", .cls "Circuit", .exm "BadCircuit" "BadCircuit" true, .noat "Circuit" "inputs", .noat "Circuit" "registers", .noat "Circuit" "gates", .noat "Circuit" "outputs", .noat "Circuit" "gate_of", .noat "Circuit" "order", .exm "BadTester" "BadTester" true, .free "all", .free "bool", .free "divmod", .free "enumerate", .free "int", .free "isinstance", .free "len", .free "list", .free "max", .free "range", .free "set", .free "str", .free "tuple", .int "MOST_PATTERNS" 1000, .int "MOST_NAME" 12, .int "MOST_PINS" 4, .int "MOST_LINES" 400, .int "MOST_SOURCES" 40, .str "_LETTERS" "abcdefghijklmnopqrstuvwxyz", .str "_CHARACTERS" "abcdefghijklmnopqrstuvwxyz0123456789_"]
def kinD : List He.Dv := KIN.map He.Dv.str
def exB (K : PySem.W.Frag) : Bool := [oexB K (He.ga K "BadCircuit"), decide (PySem.W.findIn K (.ref (He.ga K "BadCircuit")) "__init__" = some (some (.ref (He.ma K (He.ga K "BadCircuit") "__init__")))), decide (PySem.W.typeIn K (.ref (He.ma K (He.ga K "BadCircuit") "__init__")) = some (.type "function")), xfB K (He.ga K "BadCircuit"), He.tupB K "KINDS" kinD].all id
abbrev RR : PySem.W.OpenRow := PySem.W.OpenLaw.row PySem.Challenge.rw_probewright_k56_logs_are_read_strictly
abbrev hk : PySem.W.Hook := He.hookX 6 faL fnL [] [] exB
def ob (s : PySem.W.SharedT) : He.AlX := He.obsX 6 faL fnL [] [] exB (HandSHeadRun.getT s)
theorem ob_eq (s : PySem.W.SharedT) : ob s = hk.obs s.abs := He.obsX_eq (HandSHeadRun.getT_eq s)
theorem sc_iBadCircuit : FnScope [("self" : Str), "reason", "name"] [("self" : Str), "reason", "name"] (defScope s_iBadCircuit) := ⟨rfl, rfl, rfl, by decide +kernel, rfl, by decide +kernel, by decide +kernel⟩
theorem xm_BadCircuit {C fI : Addr} {fd : FuncData} (F : FunD K "__init__" "BadCircuit.__init__" (defArgs s_iBadCircuit) (defBody s_iBadCircuit) (defScope s_iBadCircuit) [] [] fI fd) (hm : mg "BadCircuit" = some (.ref C)) (T : OexC K C) (iC : PySem.W.findIn K (.ref C) "__init__" = some (some (.ref fI))) (tI : PySem.W.typeIn K (.ref fI) = some (.type "function"))
    (n1 : PySem.W.findIn K (.ref C) "reason" = some none) (n2 : PySem.W.findIn K (.ref C) "name" = some none) : Xm P w K mg base "BadCircuit" C (spX2 C "reason" "name") :=
  ⟨fI, fd, [("self" : Str), "reason", "name"], hm, T, iC, tI, F.bindsN fun _ _ _ _ _ _ us hl => match us, hl with | [_, _, _], _ => rfl,
    init2c F sc_iBadCircuit T n1 n2 fun cdv A outer s H E => pss_cons (ps_ost (pv 0) (pv 1)) (pss_one (ps_ost (pv 0) (pv 2)))⟩
theorem lawOk {h : Heap} (X : K.In h) (G : h.Ns mainGlobals mg) (c : He.SaysD faL fnL K) (m : exB K = true) : ∀ base : Heap, FxL P w K mg base 8 "law" ["script"] (spR P w K (R_law K)) s_law := by
  intro base
  unfold exB at m
  simp only [List.all_cons, List.all_nil, id, Bool.and_eq_true, decide_eq_true_eq, and_true] at m
  obtain ⟨m0, m1, m2, m3, m4⟩ := m
  have T : Txt K mg := {
    f_all := He.free_ok X G (c.fact 46 (f := .free "all") rfl)
    f_bool := He.free_ok X G (c.fact 47 (f := .free "bool") rfl)
    f_divmod := He.free_ok X G (c.fact 48 (f := .free "divmod") rfl)
    f_enumerate := He.free_ok X G (c.fact 49 (f := .free "enumerate") rfl)
    f_int := He.free_ok X G (c.fact 50 (f := .free "int") rfl)
    f_isinstance := He.free_ok X G (c.fact 51 (f := .free "isinstance") rfl)
    f_len := He.free_ok X G (c.fact 52 (f := .free "len") rfl)
    f_list := He.free_ok X G (c.fact 53 (f := .free "list") rfl)
    f_max := He.free_ok X G (c.fact 54 (f := .free "max") rfl)
    f_range := He.free_ok X G (c.fact 55 (f := .free "range") rfl)
    f_set := He.free_ok X G (c.fact 56 (f := .free "set") rfl)
    f_str := He.free_ok X G (c.fact 57 (f := .free "str") rfl)
    f_tuple := He.free_ok X G (c.fact 58 (f := .free "tuple") rfl)
    g_MOST_PATTERNS := He.int_ok X G (c.fact 59 (f := .int "MOST_PATTERNS" 1000) rfl)
    g_MOST_NAME := He.int_ok X G (c.fact 60 (f := .int "MOST_NAME" 12) rfl)
    g_MOST_PINS := He.int_ok X G (c.fact 61 (f := .int "MOST_PINS" 4) rfl)
    g_MOST_LINES := He.int_ok X G (c.fact 62 (f := .int "MOST_LINES" 400) rfl)
    g_MOST_SOURCES := He.int_ok X G (c.fact 63 (f := .int "MOST_SOURCES" 40) rfl)
    g__LETTERS := He.str_ok X G (c.fact 64 (f := .str "_LETTERS" "abcdefghijklmnopqrstuvwxyz") rfl)
    g__CHARACTERS := He.str_ok X G (c.fact 65 (f := .str "_CHARACTERS" "abcdefghijklmnopqrstuvwxyz0123456789_") rfl)
    c_BadTester := He.glo_ok X G (c.fact 31 (f := .glo "BadTester") rfl)
    e_BadTester_BadTester := He.exm_ok (c.fact 45 (f := .exm "BadTester" "BadTester" true) rfl)
    g_KINDS := He.glo_ok X G (c.fact 36 (f := .glo "KINDS") rfl)
    t_KINDS := fun H => by
      have := He.tupB_ok m4 H
      have e : kinD.map (He.Dv.v K) = KIN.map V.str := by unfold kinD; rw [List.map_map]; rfl
      rw [e] at this
      exact this
    k_Circuit := He.cls_ok (c.fact 37 (f := .cls "Circuit") rfl)
    a_Circuit := fun f hf => by
      simp only [List.mem_cons, List.not_mem_nil, or_false] at hf
      rcases hf with rfl | rfl | rfl | rfl | rfl | rfl
      · exact He.noat_ok (c.fact 39 (f := .noat "Circuit" "inputs") rfl)
      · exact He.noat_ok (c.fact 40 (f := .noat "Circuit" "registers") rfl)
      · exact He.noat_ok (c.fact 41 (f := .noat "Circuit" "gates") rfl)
      · exact He.noat_ok (c.fact 42 (f := .noat "Circuit" "outputs") rfl)
      · exact He.noat_ok (c.fact 43 (f := .noat "Circuit" "gate_of") rfl)
      · exact He.noat_ok (c.fact 44 (f := .noat "Circuit" "order") rfl)
    c_BadCircuit := He.glo_ok X G (c.fact 32 (f := .glo "BadCircuit") rfl)
    x_BadCircuit := xfB_ok m3
    n_reason := He.noat_ok (c.fact 34 (f := .noat "BadCircuit" "reason") rfl)
    n_name := He.noat_ok (c.fact 35 (f := .noat "BadCircuit" "name") rfl)
    e_BadCircuit := He.exm_ok (c.fact 38 (f := .exm "BadCircuit" "BadCircuit" true) rfl) }
  have X_BadTester : Xm1 K mg "BadTester" (He.ga K "BadTester") := by
    obtain ⟨e1, e2, e3, e4⟩ := He.exc_ok (c.fact 33 (f := .exc "BadTester") rfl)
    exact ⟨He.glo_ok X G (c.fact 31 (f := .glo "BadTester") rfl), e1, e2, e3, e4⟩
  have X_BadCircuit : Xm P w K mg base "BadCircuit" (He.ga K "BadCircuit") (spX2 (He.ga K "BadCircuit") "reason" "name") := by
    obtain ⟨fd, F⟩ := c.def_ 30 (d := dd_iBadCircuit) rfl
    exact xm_BadCircuit F (He.glo_ok X G (c.fact 32 (f := .glo "BadCircuit") rfl)) (oexB_ok m0) m1 m2 (He.noat_ok (c.fact 34 (f := .noat "BadCircuit" "reason") rfl)) (He.noat_ok (c.fact 35 (f := .noat "BadCircuit" "name") rfl))
  have D_is_name : Dx K mg "is_name" ["value"] s_is_name := by
    obtain ⟨fd, F⟩ := c.def_ 0 (d := dd_is_name) rfl
    exact ⟨_, fd, He.glo_ok X G (c.fact 0 (f := .glo "is_name") rfl), F, F.bindsN fun _ _ _ _ _ _ us hl => match us, hl with | [_], _ => rfl⟩
  have D_may_have : Dx K mg "_may_have" ["kind", "count"] s_may_have := by
    obtain ⟨fd, F⟩ := c.def_ 1 (d := dd_may_have) rfl
    exact ⟨_, fd, He.glo_ok X G (c.fact 1 (f := .glo "_may_have") rfl), F, F.bindsN fun _ _ _ _ _ _ us hl => match us, hl with | [_, _], _ => rfl⟩
  have D_are_names : Dx K mg "_are_names" ["items"] s_are_names := by
    obtain ⟨fd, F⟩ := c.def_ 2 (d := dd_are_names) rfl
    exact ⟨_, fd, He.glo_ok X G (c.fact 2 (f := .glo "_are_names") rfl), F, F.bindsN fun _ _ _ _ _ _ us hl => match us, hl with | [_], _ => rfl⟩
  have D_is_register : Dx K mg "_is_register" ["value"] s_is_register := by
    obtain ⟨fd, F⟩ := c.def_ 3 (d := dd_is_register) rfl
    exact ⟨_, fd, He.glo_ok X G (c.fact 3 (f := .glo "_is_register") rfl), F, F.bindsN fun _ _ _ _ _ _ us hl => match us, hl with | [_], _ => rfl⟩
  have D_is_gate : Dx K mg "is_gate" ["value"] s_is_gate := by
    obtain ⟨fd, F⟩ := c.def_ 4 (d := dd_is_gate) rfl
    exact ⟨_, fd, He.glo_ok X G (c.fact 4 (f := .glo "is_gate") rfl), F, F.bindsN fun _ _ _ _ _ _ us hl => match us, hl with | [_], _ => rfl⟩
  have D_check_form : Dx K mg "_check_form" ["inputs", "registers", "gates", "outputs"] s_check_form := by
    obtain ⟨fd, F⟩ := c.def_ 5 (d := dd_check_form) rfl
    exact ⟨_, fd, He.glo_ok X G (c.fact 5 (f := .glo "_check_form") rfl), F, F.bindsN fun _ _ _ _ _ _ us hl => match us, hl with | [_, _, _, _], _ => rfl⟩
  have D_check_driven_once : Dx K mg "_check_driven_once" ["lines"] s_check_driven_once := by
    obtain ⟨fd, F⟩ := c.def_ 6 (d := dd_check_driven_once) rfl
    exact ⟨_, fd, He.glo_ok X G (c.fact 6 (f := .glo "_check_driven_once") rfl), F, F.bindsN fun _ _ _ _ _ _ us hl => match us, hl with | [_], _ => rfl⟩
  have D_check_known : Dx K mg "_check_known" ["lines", "names"] s_check_known := by
    obtain ⟨fd, F⟩ := c.def_ 7 (d := dd_check_known) rfl
    exact ⟨_, fd, He.glo_ok X G (c.fact 7 (f := .glo "_check_known") rfl), F, F.bindsN fun _ _ _ _ _ _ us hl => match us, hl with | [_, _], _ => rfl⟩
  have D_check_size : Dx K mg "_check_size" ["lines", "sources"] s_check_size := by
    obtain ⟨fd, F⟩ := c.def_ 8 (d := dd_check_size) rfl
    exact ⟨_, fd, He.glo_ok X G (c.fact 8 (f := .glo "_check_size") rfl), F, F.bindsN fun _ _ _ _ _ _ us hl => match us, hl with | [_, _], _ => rfl⟩
  have D_in_order : Dx K mg "_in_order" ["sources", "gates"] s_in_order := by
    obtain ⟨fd, F⟩ := c.def_ 9 (d := dd_in_order) rfl
    exact ⟨_, fd, He.glo_ok X G (c.fact 9 (f := .glo "_in_order") rfl), F, F.bindsN fun _ _ _ _ _ _ us hl => match us, hl with | [_, _], _ => rfl⟩
  have D_Circuit_lines : Dm K (He.ga K "Circuit") "lines" "Circuit.lines" ["self"] s_Circuit_lines := by
    obtain ⟨fd, F⟩ := c.def_ 10 (d := dd_Circuit_lines) rfl
    exact ⟨_, fd, He.meth_ok (c.fact 11 (f := .meth "Circuit" "lines") rfl), F, F.bindsN fun _ _ _ _ _ _ us hl => match us, hl with | [_], _ => rfl⟩
  have D_Circuit_sources : Dm K (He.ga K "Circuit") "sources" "Circuit.sources" ["self"] s_Circuit_sources := by
    obtain ⟨fd, F⟩ := c.def_ 11 (d := dd_Circuit_sources) rfl
    exact ⟨_, fd, He.meth_ok (c.fact 12 (f := .meth "Circuit" "sources") rfl), F, F.bindsN fun _ _ _ _ _ _ us hl => match us, hl with | [_], _ => rfl⟩
  have D_Circuit_init : Di K mg (He.ga K "Circuit") "Circuit" "Circuit.__init__" ["self", "inputs", "registers", "gates", "outputs"] s_Circuit_init := by
    obtain ⟨fd, F⟩ := c.def_ 12 (d := dd_Circuit_init) rfl
    exact ⟨_, fd, He.glo_ok X G (c.fact 10 (f := .glo "Circuit") rfl), He.mkr_ok (c.fact 13 (f := .mkr "Circuit") rfl), F, F.bindsN fun _ _ _ _ _ _ us hl => match us, hl with | [_, _, _, _, _], _ => rfl⟩
  have D_Circuit_parts : Dm K (He.ga K "Circuit") "parts" "Circuit.parts" ["self"] s_Circuit_parts := by
    obtain ⟨fd, F⟩ := c.def_ 13 (d := dd_Circuit_parts) rfl
    exact ⟨_, fd, He.meth_ok (c.fact 14 (f := .meth "Circuit" "parts") rfl), F, F.bindsN fun _ _ _ _ _ _ us hl => match us, hl with | [_], _ => rfl⟩
  have D_is_integer : Dx K mg "is_integer" ["value", "least", "greatest"] s_is_integer := by
    obtain ⟨fd, F⟩ := c.def_ 14 (d := dd_is_integer) rfl
    exact ⟨_, fd, He.glo_ok X G (c.fact 15 (f := .glo "is_integer") rfl), F, F.bindsN fun _ _ _ _ _ _ us hl => match us, hl with | [_, _, _], _ => rfl⟩
  have D_is_bit : Dx K mg "is_bit" ["value"] s_is_bit := by
    obtain ⟨fd, F⟩ := c.def_ 15 (d := dd_is_bit) rfl
    exact ⟨_, fd, He.glo_ok X G (c.fact 16 (f := .glo "is_bit") rfl), F, F.bindsN fun _ _ _ _ _ _ us hl => match us, hl with | [_], _ => rfl⟩
  have D_are_bits : Dx K mg "are_bits" ["value", "count"] s_are_bits := by
    obtain ⟨fd, F⟩ := c.def_ 16 (d := dd_are_bits) rfl
    exact ⟨_, fd, He.glo_ok X G (c.fact 17 (f := .glo "are_bits") rfl), F, F.bindsN fun _ _ _ _ _ _ us hl => match us, hl with | [_, _], _ => rfl⟩
  have D_chains : Dx K mg "chains" ["circuit", "count"] s_chains := by
    obtain ⟨fd, F⟩ := c.def_ 17 (d := dd_chains) rfl
    exact ⟨_, fd, He.glo_ok X G (c.fact 18 (f := .glo "chains") rfl), F, F.bindsN fun _ _ _ _ _ _ us hl => match us, hl with | [_, _], _ => rfl⟩
  have D_check_bits : Dx K mg "_check_bits" ["bits", "count"] s_check_bits := by
    obtain ⟨fd, F⟩ := c.def_ 18 (d := dd_check_bits) rfl
    exact ⟨_, fd, He.glo_ok X G (c.fact 19 (f := .glo "_check_bits") rfl), F, F.bindsN fun _ _ _ _ _ _ us hl => match us, hl with | [_, _], _ => rfl⟩
  have D_check_log : Dx K mg "_check_log" ["circuit", "count", "longest", "log"] s_check_log := by
    obtain ⟨fd, F⟩ := c.def_ 19 (d := dd_check_log) rfl
    exact ⟨_, fd, He.glo_ok X G (c.fact 20 (f := .glo "_check_log") rfl), F, F.bindsN fun _ _ _ _ _ _ us hl => match us, hl with | [_, _, _, _], _ => rfl⟩
  have D_read_back : Dx K mg "read_back" ["circuit", "count", "log"] s_read_back := by
    obtain ⟨fd, F⟩ := c.def_ 20 (d := dd_read_back) rfl
    exact ⟨_, fd, He.glo_ok X G (c.fact 21 (f := .glo "read_back") rfl), F, F.bindsN fun _ _ _ _ _ _ us hl => match us, hl with | [_, _, _], _ => rfl⟩
  have D_law_draws : Dx K mg "_law_draws" ["script"] s_law_draws := by
    obtain ⟨fd, F⟩ := c.def_ 21 (d := dd_law_draws) rfl
    exact ⟨_, fd, He.glo_ok X G (c.fact 22 (f := .glo "_law_draws") rfl), F, F.bindsN fun _ _ _ _ _ _ us hl => match us, hl with | [_], _ => rfl⟩
  have D_law_draw : Dx K mg "_law_draw" ["draws", "limit"] s_law_draw := by
    obtain ⟨fd, F⟩ := c.def_ 22 (d := dd_law_draw) rfl
    exact ⟨_, fd, He.glo_ok X G (c.fact 23 (f := .glo "_law_draw") rfl), F, F.bindsN fun _ _ _ _ _ _ us hl => match us, hl with | [_, _], _ => rfl⟩
  have D_law_same : Dx K mg "_law_same" ["actual", "expected"] s_law_same := by
    obtain ⟨fd, F⟩ := c.def_ 23 (d := dd_law_same) rfl
    exact ⟨_, fd, He.glo_ok X G (c.fact 24 (f := .glo "_law_same") rfl), F, F.bindsN fun _ _ _ _ _ _ us hl => match us, hl with | [_, _], _ => rfl⟩
  have D_law_chains : Dx K mg "_law_chains" ["size", "count"] s_law_chains := by
    obtain ⟨fd, F⟩ := c.def_ 24 (d := dd_law_chains) rfl
    exact ⟨_, fd, He.glo_ok X G (c.fact 25 (f := .glo "_law_chains") rfl), F, F.bindsN fun _ _ _ _ _ _ us hl => match us, hl with | [_, _], _ => rfl⟩
  have D_law_bits_of : Dx K mg "_law_bits_of" ["draws", "size"] s_law_bits_of := by
    obtain ⟨fd, F⟩ := c.def_ 25 (d := dd_law_bits_of) rfl
    exact ⟨_, fd, He.glo_ok X G (c.fact 26 (f := .glo "_law_bits_of") rfl), F, F.bindsN fun _ _ _ _ _ _ us hl => match us, hl with | [_, _], _ => rfl⟩
  have D_law_is_bits : Dx K mg "_law_is_bits" ["value", "size"] s_law_is_bits := by
    obtain ⟨fd, F⟩ := c.def_ 26 (d := dd_law_is_bits) rfl
    exact ⟨_, fd, He.glo_ok X G (c.fact 27 (f := .glo "_law_is_bits") rfl), F, F.bindsN fun _ _ _ _ _ _ us hl => match us, hl with | [_, _], _ => rfl⟩
  have D_law_due : Dx K mg "_law_due" ["chains_v", "outputs", "size", "log"] s_law_due := by
    obtain ⟨fd, F⟩ := c.def_ 27 (d := dd_law_due) rfl
    exact ⟨_, fd, He.glo_ok X G (c.fact 28 (f := .glo "_law_due") rfl), F, F.bindsN fun _ _ _ _ _ _ us hl => match us, hl with | [_, _, _, _], _ => rfl⟩
  have D_law_changed : Dx K mg "_law_changed" ["draws", "log"] s_law_changed := by
    obtain ⟨fd, F⟩ := c.def_ 28 (d := dd_law_changed) rfl
    exact ⟨_, fd, He.glo_ok X G (c.fact 29 (f := .glo "_law_changed") rfl), F, F.bindsN fun _ _ _ _ _ _ us hl => match us, hl with | [_, _], _ => rfl⟩
  have D_law : Dx K mg "law" ["script"] s_law := by
    obtain ⟨fd, F⟩ := c.def_ 29 (d := dd_law) rfl
    exact ⟨_, fd, He.glo_ok X G (c.fact 30 (f := .glo "law") rfl), F, F.bindsN fun _ _ _ _ _ _ us hl => match us, hl with | [_], _ => rfl⟩
  have G_is_name := k_is_name (P := P) (w := w) (base := base) T D_is_name 
  have G__may_have := k_may_have (P := P) (w := w) (base := base) T D_may_have 
  have G__are_names := k_are_names (P := P) (w := w) (base := base) T D_are_names G_is_name
  have G__is_register := k_is_register (P := P) (w := w) (base := base) T D_is_register G__are_names
  have G_is_gate := k_is_gate (P := P) (w := w) (base := base) T D_is_gate G__may_have G__are_names
  have G__check_form := k_check_form (P := P) (w := w) (base := base) T D_check_form G__are_names G__is_register G_is_gate X_BadCircuit
  have G__check_driven_once := k_check_driven_once (P := P) (w := w) (base := base) T D_check_driven_once X_BadCircuit
  have G__check_known := k_check_known (P := P) (w := w) (base := base) T D_check_known X_BadCircuit
  have G__check_size := k_check_size (P := P) (w := w) (base := base) T D_check_size X_BadCircuit
  have G__in_order := k_in_order (P := P) (w := w) (base := base) T D_in_order X_BadCircuit
  have M_Circuit_sources := k_Circuit_sources (P := P) (w := w) (base := base) T D_Circuit_sources 
  have M_Circuit_lines := k_Circuit_lines (P := P) (w := w) (base := base) T D_Circuit_lines M_Circuit_sources
  have I_Circuit := k_Circuit_init (P := P) (w := w) (base := base) T D_Circuit_init G__check_form G__check_driven_once M_Circuit_lines G__check_known G__check_size M_Circuit_sources G__in_order
  have I_Circuit := ix_imp I_Circuit (ri_Circuit true true true true)
  have M_Circuit_parts := k_Circuit_parts (P := P) (w := w) (base := base) T D_Circuit_parts 
  have G_is_integer := k_is_integer (P := P) (w := w) (base := base) T D_is_integer 
  have G_is_bit := k_is_bit (P := P) (w := w) (base := base) T D_is_bit G_is_integer
  have G_are_bits := k_are_bits (P := P) (w := w) (base := base) T D_are_bits G_is_bit
  have G_chains := k_chains (P := P) (w := w) (base := base) T D_chains G_is_integer X_BadTester
  have G__check_bits := k_check_bits (P := P) (w := w) (base := base) T D_check_bits G_are_bits X_BadTester
  have G__check_log := k_check_log (P := P) (w := w) (base := base) T D_check_log G__check_bits X_BadTester
  have G_read_back := k_read_back (P := P) (w := w) (base := base) T D_read_back G_chains G__check_log
  have G__law_draws := k_law_draws (P := P) (w := w) (base := base) T D_law_draws 
  have G__law_draw := k_law_draw (P := P) (w := w) (base := base) T D_law_draw 
  have q0 := same0 (P := P) (w := w) (base := base) D_law_same
  have q1 := k_law_same (P := P) (w := w) (base := base) 0 T D_law_same q0
  have q2 := k_law_same (P := P) (w := w) (base := base) 1 T D_law_same q1
  have q3 := k_law_same (P := P) (w := w) (base := base) 2 T D_law_same q2
  have q4 := k_law_same (P := P) (w := w) (base := base) 3 T D_law_same q3
  have q5 := k_law_same (P := P) (w := w) (base := base) 4 T D_law_same q4
  have q6 := k_law_same (P := P) (w := w) (base := base) 5 T D_law_same q5
  have G__law_same := q6
  have G__law_chains := k_law_chains (P := P) (w := w) (base := base) T D_law_chains 
  have G__law_bits_of := k_law_bits_of (P := P) (w := w) (base := base) T D_law_bits_of G__law_draw
  have G__law_is_bits := k_law_is_bits (P := P) (w := w) (base := base) T D_law_is_bits 
  have G__law_due := k_law_due (P := P) (w := w) (base := base) T D_law_due G__law_is_bits
  have G__law_changed := k_law_changed (P := P) (w := w) (base := base) T D_law_changed G__law_draw
  exact k_law T D_law G__law_draws G__law_draw I_Circuit G__law_chains G__law_bits_of G__law_changed G__law_due G_read_back G__law_same
end
end CC
set_option maxHeartbeats 0
namespace CC
open PySem PySem.Spec PyProof.Rows L2 Qw
def loose1 : List PySem.Str := (["_wall", "ProbeError", "BadCircuit", "BadTester", "MOST_NAME", "MOST_PINS", "MOST_LINES", "MOST_SOURCES", "MOST_PATTERNS", "_LETTERS", "_CHARACTERS", "is_integer", "is_bit", "are_bits", "is_name", "KINDS"] : List PySem.Str) ++ (["_may_have", "_are_names", "_is_register", "is_gate", "_check_form", "_check_driven_once", "_check_known", "_check_size", "_in_order", "Circuit", "chains", "_check_bits", "_check_log", "read_back", "_law_draws", "_law_draw"] : List PySem.Str) ++ (["_law_same", "_law_chains", "_law_bits_of", "_law_is_bits", "_law_due", "_law_changed"] : List PySem.Str)
theorem run (w : World) : HandSHeadRun.RunEq RR (PySem.W.view RR.prog [43]) hk ob 4000 loose1 w := by
  intro os
  kernel_rfl
end CC
namespace CC
open PySem PySem.Spec PyProof.Rows L2 Qw Mw
open Pw (Dt Rp RpL Wk)
theorem ints_rel {K : PySem.W.Frag} {F : Hp} : ∀ ns : List Int, RpL K F (ns.map Dt.int) (ns.map V.int)
  | [] => rfl
  | n :: ns => ⟨V.int n, ns.map V.int, rfl, rfl, ints_rel ns⟩
theorem quiet {P : Program} {w : World} {K : PySem.W.Frag} {mg : Str → Option Value} {base : Heap} {k : Nat} {f : Addr} {fd : FuncData} {ps : List Str} {sp : Sp} (F : FnOk P w K mg base (L2.CX P w) k f fd ps sp) : FnOk P w K mg base CX0 k f fd ps (fun vs H Q _ => sp vs H Q E0) :=
  ⟨fun vs H Q _ h => F.len vs H Q E0 h, fun A outer s H args us vs Q E hr he hb hv h => codeAny_mono (F.run A outer s H args us vs Q E0 hr he hb hv h) fun r s' z => by
    cases r with
    | error e =>
      obtain ⟨_, _, _, _, _, _, _, _, _, _, _, _, q⟩ := (show L2.CX P w outer H s E0 e s' from z)
      exact q.elim
    | ok v => cases v <;> exact z⟩
theorem facts {P : Program} {w : World} {K : PySem.W.Frag} {h : Heap} {mg : Str → Option Value} {f : Addr} (X : K.In h) (G : h.Ns mainGlobals mg) (hfa : mg ("law" : Str) = some (.ref f)) (c : He.SaysD faL fnL K) (m : exB K = true) :
    ∀ base : Heap, ∃ fd : FuncData, FunD K "law" "law" (defArgs s_law) (defBody s_law) (defScope s_law) [] [] f fd ∧ FnOk P w K mg base CX0 8 f fd ["script"] (fun vs H Q _ => spR P w K (R_law K) vs H Q E0) := by
  intro base
  obtain ⟨f', fd', h1, F, h4⟩ := lawOk (P := P) (w := w) X G c m base
  have e : f' = f := by
    rw [hfa] at h1
    exact (Value.ref.inj (Option.some.inj h1)).symm
  subst e
  exact ⟨fd', F, quiet h4⟩
theorem one {K : PySem.W.Frag} {f : Addr} {fd fd' : FuncData} (F : FunD K "law" "law" (defArgs s_law) (defBody s_law) (defScope s_law) [] [] f fd) (F' : FunD K "law" "law" (defArgs s_law) (defBody s_law) (defScope s_law) [] [] f fd') : fd = fd' := by
  obtain ⟨_, _, _, _, _, _, _, _, _, _, _, l1, _⟩ := F.ex
  obtain ⟨_, _, _, _, _, _, _, _, _, _, _, l2, _⟩ := F'.ex
  rw [l1] at l2
  have e3 := Option.some.inj l2
  injection e3 with _ _ e4 _
  injection e4
theorem facts1 {P : Program} {w : World} {K : PySem.W.Frag} {h : Heap} {mg : Str → Option Value} {f : Addr} (X : K.In h) (G : h.Ns mainGlobals mg) (hfa : mg ("law" : Str) = some (.ref f)) (c : He.SaysD faL fnL K) (m : exB K = true) :
    ∃ fd : FuncData, (∀ (s : Shared) (v : Value), BindsTo s fd ⟨[v], []⟩ [("script", v)]) ∧ ∀ base : Heap, FnOk P w K mg base CX0 8 f fd ["script"] (fun vs H Q _ => spR P w K (R_law K) vs H Q E0) := by
  obtain ⟨fd, F, _⟩ := facts (P := P) (w := w) X G hfa c m h
  have b := FunD.bindsA (ps := ["script"]) F fun _ _ _ _ _ _ us hl => match us, hl with | [_], _ => rfl
  refine ⟨fd, fun s v => b s [v] rfl, fun base => ?_⟩
  obtain ⟨fd', F', h4⟩ := facts (P := P) (w := w) X G hfa c m base
  rw [one F F']
  exact h4
end CC
open PySem PySem.W PySem.Calls PyProof.Rows
theorem PySem.Challenge.cw_probewright_k56_logs_are_read_strictly_holds : PySem.Challenge.rw_probewright_k56_logs_are_read_strictly.Holds := by
  w_on; o_law
  refine HandSHeadRun.head_any (r := OpenLaw.row PySem.Challenge.rw_probewright_k56_logs_are_read_strictly) (q := view (OpenLaw.row PySem.Challenge.rw_probewright_k56_logs_are_read_strictly).prog [43]) (H := CC.hk) (ob := CC.ob) (M := 4000) (loose := CC.loose1) (d := HandSHeadRun.topDef (OpenLaw.row PySem.Challenge.rw_probewright_k56_logs_are_read_strictly).prog 43) (kwd := []) CC.ob_eq
    (by kernel_rfl) (fun s => by kernel_rfl) CC.run (by kernel_rfl) (by kernel_rfl) (by kernel_rfl) (by rfl) (by first | assumption | decide +kernel) (by decide +kernel) ⟨rfl, rfl, rfl, rfl, rfl, by decide +kernel⟩ ?hw ?hc
  case hw => w_witness2
  case hc =>
    refine L2.walk_ofE (l := PySem.Challenge.rw_probewright_k56_logs_are_read_strictly) (n := 63) (k := 8) (x := "script") (CX := L2.CX0) rfl (by decide) (by kernel_rfl) ⟨rfl, by decide, by decide⟩ ?F (fun _ _ _ _ z => z)
    intro w mg fa h Y G hmg0
    obtain ⟨K, KX, c⟩ := Y
    have hmg : mg ("law" : PySem.Str) = some (.ref fa) := by
      have e : (HandSHeadRun.topDef (OpenLaw.row PySem.Challenge.rw_probewright_k56_logs_are_read_strictly).prog 43).name = ("law" : PySem.Str) := by kernel_rfl
      rw [← e]
      exact hmg0
    obtain ⟨fd, hb, hF⟩ := CC.facts1 (P := (PySem.Challenge.rw_probewright_k56_logs_are_read_strictly).prog) (w := w) KX G hmg c.t.d c.more
    refine ⟨K, fd, _, KX, hb, fun H a ns hl HB hS => ?_, fun base _ _ => hF base⟩
    exact ⟨H, [.lst (ns.map Pw.Dt.int)], .d (.bl true), Evl.Ex.refl H, ⟨.ref a, [], rfl, ⟨a, ns.map L2.V.int, rfl, hS, CC.ints_rel ns⟩, rfl⟩, ⟨(ns, ()), rfl, (by show Mw.Got K (CC.m_law ns) _ _; rw [CC.law_true ns ]; rfl)⟩, fun v F' H' _ r => r⟩

