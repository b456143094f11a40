import PyProof.Rows.All
import Wide.All
import OpenK.AllK
import Wide.FinOn
import HandS.ForMost
import HandS.Evl
import HandS.Walk
import HandS.IsInst
import HandS.SetKeys
import HandS.DictComp
import HandS.FStr
import HandS.Deep
import HandS.More
import HandS.Style
import HandS.ForExc
import HandS.ExcIs
import HandS.RaiseMore
import HandS.Sort
import HandS.SortInts
import HandS.Gcd
import HandS.Conv
import PySem.Challenge.RW_fewbuses_k08_whole_fewest
set_option Elab.async false
set_option linter.all false
set_option maxRecDepth 100000
set_option maxHeartbeats 4000000
namespace Fw
open PySem PySem.Spec PyProof.Rows L2
open Evl (Ex)

/-! ### how (G, H) grows: G what is frozen, H all that is tracked -/
structure Ext (G H G' H' : Hp) : Prop where
  eg : Ex G G'
  eh : Ex H H'
  gh : Ex G' H'
  nw : ∀ a, G a = none → G' a ≠ none → H a = none
theorem Ext.refl {G H : Hp} (gh : Ex G H) : Ext G H G H := ⟨Evl.Ex.refl _, Evl.Ex.refl _, gh, fun _ h h' => absurd h h'⟩
theorem Ext.trans {G H G1 H1 G2 H2 : Hp} (a : Ext G H G1 H1) (b : Ext G1 H1 G2 H2) : Ext G H G2 H2 :=
  ⟨a.eg.trans b.eg, a.eh.trans b.eh, b.gh, fun x h h' => by
    by_cases c : G1 x = none
    · exact Evl.fresh_back a.eh (b.nw x c h')
    · exact a.nw x h c⟩
theorem Ext.heap {G H H' : Hp} (gh : Ex G H) (e : Ex H H') : Ext G H G H' := ⟨Evl.Ex.refl _, e, gh.trans e, fun _ h h' => absurd h h'⟩
theorem ex_upd2 {G H : Hp} {p : Addr} {o : HO} (gh : Ex G H) : Ex (upd G p o) (upd H p o) := fun a u e => by
  by_cases c : a = p
  · subst c
    rw [upd_same] at e ⊢
    exact e
  · rw [upd_ne c] at e ⊢
    exact gh a u e
theorem Ext.new {G H : Hp} {p : Addr} {o : HO} (gh : Ex G H) (h : H p = none) : Ext G H (upd G p o) (upd H p o) :=
  ⟨Evl.Ex.new (Evl.fresh_back gh h), Evl.Ex.new h, ex_upd2 gh, fun a g g' => by
    by_cases c : a = p
    · subst c
      exact h
    · rw [upd_ne c] at g'
      exact absurd g g'⟩
/-- what is owned stays apart from what is frozen -/
theorem Ext.apart {G H G' H' : Hp} {p : Addr} {o : HO} (x : Ext G H G' H') (g : G p = none) (h : H p = some o) : G' p = none := by
  by_cases c : G' p = none
  · exact c
  · have := x.nw p g c
    rw [h] at this
    cases this

/-! ### data: made of lists and tuples that are tracked -/
mutual
inductive Dt (G : Hp) : V → PyData → Prop
  | non : Dt G .non .none
  | bl (b : Bool) : Dt G (.bl b) (.bool b)
  | int (i : Int) : Dt G (.int i) (.int i)
  | str (x : Str) : Dt G (.str x) (.str x)
  | lst {a : Addr} {xs : List V} {ds : List PyData} : G a = some (.lst xs) → DtA G xs ds → Dt G (.ref a) (.list ds)
  | tup {a : Addr} {xs : List V} {ds : List PyData} : G a = some (.tup xs) → DtA G xs ds → Dt G (.ref a) (.tuple ds)
inductive DtA (G : Hp) : List V → List PyData → Prop
  | nil : DtA G [] []
  | cons {v : V} {vs : List V} {d : PyData} {ds : List PyData} : Dt G v d → DtA G vs ds → DtA G (v :: vs) (d :: ds)
end
section
variable {K : PySem.W.Frag} {G G' H H' : Hp}
mutual
theorem dp_mono (e : Ex G G') : ∀ (d : PyData) (v : V), Dt G v d → Dt G' v d
  | .none, _, h => by cases h; exact .non
  | .bool b, _, h => by cases h; exact .bl b
  | .int i, _, h => by cases h; exact .int i
  | .str x, _, h => by cases h; exact .str x
  | .list ds, _, h => by
    cases h with
    | lst hs ha => exact .lst (e _ _ hs) (dpa_mono e ds _ ha)
  | .tuple ds, _, h => by
    cases h with
    | tup hs ha => exact .tup (e _ _ hs) (dpa_mono e ds _ ha)
  | .dict _, _, h => by cases h
theorem dpa_mono (e : Ex G G') : ∀ (ds : List PyData) (vs : List V), DtA G vs ds → DtA G' vs ds
  | [], _, h => by cases h; exact .nil
  | d :: ds, _, h => by
    cases h with
    | cons h1 h2 => exact .cons (dp_mono e d _ h1) (dpa_mono e ds _ h2)
end
theorem dpa_len : ∀ {ds : List PyData} {vs : List V}, DtA G vs ds → vs.length = ds.length
  | [], _, h => by cases h; rfl
  | d :: ds, _, h => by
    cases h with
    | cons h1 h2 => rw [List.length_cons, List.length_cons, dpa_len h2]
theorem dpa_get : ∀ {ds : List PyData} {vs : List V} {i : Nat} {d : PyData}, DtA G vs ds → ds[i]? = some d → ∃ v, vs[i]? = some v ∧ Dt G v d
  | [], _, _, _, _, e => by simp at e
  | d :: ds, _, 0, _, h, e => by
    cases h with
    | cons h1 h2 =>
      cases (Option.some.inj e : d = _)
      exact ⟨_, rfl, h1⟩
  | d :: ds, _, i + 1, x, h, e => by
    cases h with
    | cons h1 h2 =>
      obtain ⟨v, a, b⟩ := dpa_get (i := i) (d := x) h2 e
      exact ⟨v, a, b⟩
theorem dpa_getV : ∀ {ds : List PyData} {vs : List V} {i : Nat} {v : V}, DtA G vs ds → vs[i]? = some v → ∃ d, ds[i]? = some d ∧ Dt G v d
  | [], _, _, _, h, e => by
    cases h
    simp at e
  | d :: ds, _, 0, _, h, e => by
    cases h with
    | cons h1 h2 =>
      cases e
      exact ⟨_, rfl, h1⟩
  | d :: ds, _, i + 1, x, h, e => by
    cases h with
    | cons h1 h2 => exact dpa_getV (ds := ds) h2 (by simpa using e)
theorem dpa_append : ∀ {ds es : List PyData} {vs us : List V}, DtA G vs ds → DtA G us es → DtA G (vs ++ us) (ds ++ es)
  | [], _, _, _, h, h' => by
    cases h
    exact h'
  | d :: ds, _, _, _, h, h' => by
    cases h with
    | cons h1 h2 => exact .cons h1 (dpa_append h2 h')
theorem dpa_one {v : V} {d : PyData} (h : Dt G v d) : DtA G [v] [d] := .cons h .nil
theorem dpa_take : ∀ {ds : List PyData} {vs : List V} (n : Nat), DtA G vs ds → DtA G (vs.take n) (ds.take n)
  | [], _, n, h => by
    cases h
    rw [List.take_nil, List.take_nil]
    exact .nil
  | d :: ds, _, 0, h => .nil
  | d :: ds, _, n + 1, h => by
    cases h with
    | cons h1 h2 => exact .cons h1 (dpa_take n h2)
theorem dpa_drop : ∀ {ds : List PyData} {vs : List V} (n : Nat), DtA G vs ds → DtA G (vs.drop n) (ds.drop n)
  | _, _, 0, h => h
  | [], _, n + 1, h => by
    cases h
    exact .nil
  | d :: ds, _, n + 1, h => by
    cases h with
    | cons h1 h2 => exact dpa_drop n h2
theorem dpa_set : ∀ {ds : List PyData} {vs : List V} {v : V} {d : PyData} (n : Nat), DtA G vs ds → Dt G v d → DtA G (vs.set n v) (ds.set n d)
  | [], _, _, _, n, h, _ => by
    cases h
    exact .nil
  | d :: ds, _, _, _, 0, h, r => by
    cases h with
    | cons h1 h2 => exact .cons r h2
  | d :: ds, _, _, _, n + 1, h, r => by
    cases h with
    | cons h1 h2 => exact .cons h1 (dpa_set n h2 r)
theorem dpa_ints : ∀ (ns : List Int), DtA G (ns.map V.int) (ns.map PyData.int)
  | [] => .nil
  | n :: r => .cons (.int n) (dpa_ints r)
theorem dpa_ints' : ∀ {ns : List Int} {vs : List V}, DtA G vs (ns.map PyData.int) → vs = ns.map V.int
  | [], _, h => by
    cases h
    rfl
  | n :: r, _, h => by
    cases h with
    | cons h1 h2 =>
      cases h1
      rw [dpa_ints' h2]
      rfl
theorem dpa_bls' : ∀ {ns : List Bool} {vs : List V}, DtA G vs (ns.map PyData.bool) → vs = ns.map V.bl
  | [], _, h => by
    cases h
    rfl
  | n :: r, _, h => by
    cases h with
    | cons h1 h2 =>
      cases h1
      rw [dpa_bls' h2]
      rfl

/-! ### cells -/
inductive Cell where
  | un | scr (ns : List Int) | rng (n : Nat) | ldc (kvs : List (Key × PyData)) | dat (d : PyData) | dic (kvs : List (Key × PyData)) | own (ds : List PyData) | odi (kvs : List (Key × PyData))
def KvOk (G : Hp) (hs : List (Key × V)) (kvs : List (Key × PyData)) : Prop := Paired (fun (a : Key × V) (b : Key × PyData) => a.1 = b.1 ∧ Dt G a.2 b.2) hs kvs
theorem kv_mono (e : Ex G G') {hs : List (Key × V)} {kvs : List (Key × PyData)} (h : KvOk G hs kvs) : KvOk G' hs kvs := Paired.mapP h fun _ _ z => ⟨z.1, dp_mono e _ _ z.2⟩
/-- v is as the cell says, what is owned new since H0 -/
def ROk (K : PySem.W.Frag) (H0 G H : Hp) (v : V) : Cell → Prop
  | .un => True
  | .dat d => Dt G v d
  | .dic kvs => ∃ p hs, v = .ref p ∧ G p = some (.dK hs) ∧ KvOk G hs kvs
  | .scr ns => ∃ p, v = .ref p ∧ SqL K G p (ns.map V.int)
  | .rng n => ∃ p, v = .ref p ∧ G p = some (.rng 0 (n : Nat))
  | .ldc kvs => ∃ p hs, v = .ref p ∧ Rd G p (.dK hs) ∧ KvOk G hs kvs
  | .own ds => ∃ p ts, v = .ref p ∧ H0 p = none ∧ G p = none ∧ H p = some (.lst ts) ∧ DtA G ts ds
  | .odi kvs => ∃ p hs, v = .ref p ∧ H0 p = none ∧ G p = none ∧ H p = some (.dK hs) ∧ KvOk G hs kvs
/-- the same of a frozen one -/
def FrOk (K : PySem.W.Frag) (G : Hp) (v : V) : Cell → Prop
  | .dat d => Dt G v d
  | .dic kvs => ∃ p hs, v = .ref p ∧ G p = some (.dK hs) ∧ KvOk G hs kvs
  | .scr ns => ∃ p, v = .ref p ∧ SqL K G p (ns.map V.int)
  | .rng n => ∃ p, v = .ref p ∧ G p = some (.rng 0 (n : Nat))
  | .ldc kvs => ∃ p hs, v = .ref p ∧ Rd G p (.dK hs) ∧ KvOk G hs kvs
  | _ => False
theorem FrOk.mono (e : Ex G G') {v : V} : ∀ {c : Cell}, FrOk K G v c → FrOk K G' v c
  | .un, h => h
  | .scr _, ⟨p, e1, h⟩ => ⟨p, e1, Evl.ex_l e h⟩
  | .rng _, ⟨p, e1, h⟩ => ⟨p, e1, e _ _ h⟩
  | .ldc _, ⟨p, hs, e1, h1, h2⟩ => ⟨p, hs, e1, Evl.ex_rd e h1, kv_mono e h2⟩
  | .dat d, h => dp_mono e d v h
  | .dic _, ⟨p, hs, e1, h1, h2⟩ => ⟨p, hs, e1, e _ _ h1, kv_mono e h2⟩
  | .own _, h => h
  | .odi _, h => h
theorem FrOk.rok {H0 : Hp} {v : V} : ∀ {c : Cell}, FrOk K G v c → ROk K H0 G H v c
  | .un, h => trivial
  | .scr _, h => h
  | .rng _, h => h
  | .ldc _, h => h
  | .dat d, h => h
  | .dic _, h => h
  | .own _, h => h.elim
  | .odi _, h => h.elim
theorem ROk.ext {H0 : Hp} (x : Ext G H G' H') {v : V} : ∀ {c : Cell}, ROk K H0 G H v c → ROk K H0 G' H' v c
  | .un, h => h
  | .scr _, ⟨p, e1, h⟩ => ⟨p, e1, Evl.ex_l x.eg h⟩
  | .rng _, ⟨p, e1, h⟩ => ⟨p, e1, x.eg _ _ h⟩
  | .ldc _, ⟨p, hs, e1, h1, h2⟩ => ⟨p, hs, e1, Evl.ex_rd x.eg h1, kv_mono x.eg h2⟩
  | .dat d, h => dp_mono x.eg d v h
  | .dic _, ⟨p, hs, e1, h1, h2⟩ => ⟨p, hs, e1, x.eg _ _ h1, kv_mono x.eg h2⟩
  | .own _, ⟨p, ts, e1, h0, h1, h2, h3⟩ => ⟨p, ts, e1, h0, x.apart h1 h2, x.eh _ _ h2, dpa_mono x.eg _ _ h3⟩
  | .odi _, ⟨p, ts, e1, h0, h1, h2, h3⟩ => ⟨p, ts, e1, h0, x.apart h1 h2, x.eh _ _ h2, kv_mono x.eg h3⟩
theorem ROk.base {H0 H1 : Hp} (e : Ex H0 H1) {v : V} : ∀ {c : Cell}, ROk K H1 G H v c → ROk K H0 G H v c
  | .un, h => h
  | .scr _, h => h
  | .rng _, h => h
  | .ldc _, h => h
  | .dat d, h => h
  | .dic _, h => h
  | .own _, ⟨p, ts, e1, h0, h⟩ => ⟨p, ts, e1, Evl.fresh_back e h0, h⟩
  | .odi _, ⟨p, ts, e1, h0, h⟩ => ⟨p, ts, e1, Evl.fresh_back e h0, h⟩
def Cell.isOwn : Cell → Bool
  | .own _ => true
  | .odi _ => true
  | _ => false
def Cell.fr : Cell → Cell
  | .own ds => .dat (.list ds)
  | .odi kvs => .dic kvs
  | c => c
theorem ROk.own {H0 : Hp} {v : V} : ∀ {c : Cell}, c.isOwn = true → ROk K H0 G H v c → ∃ p o, v = .ref p ∧ H0 p = none ∧ G p = none ∧ H p = some o
  | .own _, _, ⟨p, ts, e1, h0, h1, h2, _⟩ => ⟨p, _, e1, h0, h1, h2⟩
  | .odi _, _, ⟨p, ts, e1, h0, h1, h2, _⟩ => ⟨p, _, e1, h0, h1, h2⟩
/-- frozen where it stands: G grows by it -/
theorem ROk.freeze {H0 : Hp} (gh : Ex G H) {v : V} : ∀ {c : Cell}, ROk K H0 G H v c → c ≠ .un → FrOk K H v c.fr
  | .un, _, h => absurd rfl h
  | .scr _, ⟨p, e1, h⟩, _ => ⟨p, e1, Evl.ex_l gh h⟩
  | .rng _, ⟨p, e1, h⟩, _ => ⟨p, e1, gh _ _ h⟩
  | .ldc _, ⟨p, hs, e1, h1, h2⟩, _ => ⟨p, hs, e1, Evl.ex_rd gh h1, kv_mono gh h2⟩
  | .dat d, h, _ => dp_mono gh d v h
  | .dic _, ⟨p, hs, e1, h1, h2⟩, _ => ⟨p, hs, e1, gh _ _ h1, kv_mono gh h2⟩
  | .own _, ⟨p, ts, e1, h0, h1, h2, h3⟩, _ => by
    subst e1
    exact .lst h2 (dpa_mono gh _ _ h3)
  | .odi _, ⟨p, ts, e1, h0, h1, h2, h3⟩, _ => ⟨p, ts, e1, h2, kv_mono gh h3⟩
/-- a new owned thing is frozen: G grows by it alone -/
theorem ROk.seal {G1 H1 : Hp} (x : Ext G H G1 H1) {v : V} : ∀ {c : Cell}, ROk K H G1 H1 v c → c ≠ .un → ∃ G2, Ext G H G2 H1 ∧ Ex G1 G2 ∧ FrOk K G2 v c.fr
  | .un, _, h => absurd rfl h
  | .scr _, h, _ => ⟨G1, x, Evl.Ex.refl _, h⟩
  | .rng _, h, _ => ⟨G1, x, Evl.Ex.refl _, h⟩
  | .ldc _, h, _ => ⟨G1, x, Evl.Ex.refl _, h⟩
  | .dat d, h, _ => ⟨G1, x, Evl.Ex.refl _, h⟩
  | .dic _, h, _ => ⟨G1, x, Evl.Ex.refl _, h⟩
  | .own _, ⟨p, ts, e1, h0, h1, h2, h3⟩, _ => by
    subst e1
    have e : Ex G1 (upd G1 p (.lst ts)) := Evl.Ex.new h1
    refine ⟨upd G1 p (.lst ts), ⟨x.eg.trans e, x.eh, fun a u q => ?_, fun a g g' => ?_⟩, e, .lst upd_same (dpa_mono e _ _ h3)⟩
    · by_cases c : a = p
      · subst c
        rw [upd_same] at q
        rw [h2, q]
      · rw [upd_ne c] at q
        exact x.gh a u q
    · by_cases c : a = p
      · subst c
        exact h0
      · rw [upd_ne c] at g'
        exact x.nw a g g'
  | .odi _, ⟨p, ts, e1, h0, h1, h2, h3⟩, _ => by
    subst e1
    have e : Ex G1 (upd G1 p (.dK ts)) := Evl.Ex.new h1
    refine ⟨upd G1 p (.dK ts), ⟨x.eg.trans e, x.eh, fun a u q => ?_, fun a g g' => ?_⟩, e, ⟨p, ts, rfl, upd_same, kv_mono e h3⟩⟩
    · by_cases c : a = p
      · subst c
        rw [upd_same] at q
        rw [h2, q]
      · rw [upd_ne c] at q
        exact x.gh a u q
    · by_cases c : a = p
      · subst c
        exact h0
      · rw [upd_ne c] at g'
        exact x.nw a g g'

/-- the slots are as the cells say; what is owned stands apart -/
structure Env (K : PySem.W.Frag) (G0 H0 G H : Hp) (σ : L2.St) (cs : List Cell) : Prop where
  ext : Ext G0 H0 G H
  ok : ∀ (i : Nat) c, cs[i]? = some c → c ≠ .un → ∃ v, σ[i]? = some (some v) ∧ ROk K H0 G H v c
  ap : ∀ (i j : Nat) c c' (p : Addr), i ≠ j → cs[i]? = some c → cs[j]? = some c' → c.isOwn = true → c'.isOwn = true → σ[i]? = some (some (V.ref p)) → σ[j]? ≠ some (some (V.ref p))
  len : σ.length = cs.length
variable {G0 H0 : Hp} {σ : L2.St} {cs : List Cell}
theorem Env.gh (e : Env K G0 H0 G H σ cs) : Ex G H := e.ext.gh
theorem Env.step (e : Env K G0 H0 G H σ cs) (x : Ext G H G' H') : Env K G0 H0 G' H' σ cs :=
  ⟨e.ext.trans x, fun i c h n => let ⟨v, h1, h2⟩ := e.ok i c h n; ⟨v, h1, h2.ext x⟩, e.ap, e.len⟩
theorem Env.start (h : ∀ (i : Nat) c, cs[i]? = some c → c ≠ .un → ∃ v, σ[i]? = some (some v) ∧ FrOk K G v c) (gh : Ex G H) (l : σ.length = cs.length) : Env K G H G H σ cs :=
  ⟨Ext.refl gh, fun i c hc n => let ⟨v, h1, h2⟩ := h i c hc n; ⟨v, h1, h2.rok⟩, fun i j c c' p _ hi _ ho _ _ => by
    obtain ⟨v, _, h2⟩ := h i c hi (fun z => by rw [z] at ho; cases ho)
    cases c <;> simp_all [Cell.isOwn, FrOk], l⟩
/-- all is frozen for a while -/
theorem Env.frz (e : Env K G0 H0 G H σ cs) : Env K H H H H σ (cs.map Cell.fr) := Env.start (fun i c h n => by
  rw [List.getElem?_map] at h
  cases q : cs[i]? with
  | none =>
    rw [q] at h
    cases h
  | some c0 =>
    rw [q] at h
    cases h
    have n0 : c0 ≠ .un := fun z => by
      subst z
      exact n rfl
    obtain ⟨v, h1, h2⟩ := e.ok i c0 q n0
    exact ⟨v, h1, h2.freeze e.gh n0⟩) (Evl.Ex.refl _) (by rw [e.len, List.length_map])
/-- a slot is stored -/
theorem Env.set (e : Env K G0 H0 G H σ cs) (x : Ext G H G' H') {v : V} {c : Cell} (r : ROk K H G' H' v c) (i : Nat) : Env K G0 H0 G' H' (σ.set i (some v)) (cs.set i c) := by
  have e' := e.step x
  have key : ∀ (j : Nat) c0 (p : Addr), cs[j]? = some c0 → c0.isOwn = true → c.isOwn = true → σ[j]? = some (some (V.ref p)) → v ≠ V.ref p := fun j c0 p h0 o0 o hs hv => by
    obtain ⟨q, u, rfl, hq, _⟩ := r.own o
    cases hv
    obtain ⟨w, hw1, hw2⟩ := e.ok j c0 h0 (fun z => by rw [z] at o0; cases o0)
    rw [hs] at hw1
    cases hw1
    obtain ⟨q', u', e1, _, _, h3⟩ := hw2.own o0
    cases e1
    rw [hq] at h3
    cases h3
  refine ⟨e'.ext, fun j c0 hj n => ?_, fun j k c0 c1 p hne hj hk o0 o1 hs => ?_, by rw [List.length_set, List.length_set, e.len]⟩
  · rw [List.getElem?_set] at hj ⊢
    by_cases hij : i = j
    · subst hij
      rw [if_pos rfl] at hj ⊢
      split at hj
      · rename_i hl
        cases hj
        rw [if_pos (by rw [e.len]; exact hl)]
        exact ⟨v, rfl, r.base e.ext.eh⟩
      · cases hj
    · rw [if_neg hij] at hj ⊢
      exact e'.ok j c0 hj n
  · rw [List.getElem?_set] at hj hk hs ⊢
    by_cases hij : i = j
    · subst hij
      rw [if_pos rfl] at hj hs
      rw [if_neg hne] at hk ⊢
      split at hj
      · cases hj
        split at hs
        · cases hs
          intro hσ
          exact key k c1 p hk o1 o0 hσ rfl
        · cases hs
      · cases hj
    · rw [if_neg hij] at hj hs
      by_cases hik : i = k
      · subst hik
        rw [if_pos rfl] at hk ⊢
        split at hk
        · cases hk
          split
          · intro z
            cases z
            exact key j c0 p hj o0 o1 hs rfl
          · intro z
            cases z
        · cases hk
      · rw [if_neg hik] at hk ⊢
        exact e'.ap j k c0 c1 p hne hj hk o0 o1 hs
/-- a slot's cell is weakened -/
theorem Env.un (e : Env K G0 H0 G H σ cs) (i : Nat) : Env K G0 H0 G H σ (cs.set i .un) := by
  refine ⟨e.ext, fun j c hj n => ?_, fun j k c0 c1 p hne hj hk o0 o1 hs => ?_, by rw [List.length_set, e.len]⟩
  · rw [List.getElem?_set] at hj
    split at hj
    · split at hj
      · cases hj
        exact absurd rfl n
      · cases hj
    · exact e.ok j c hj n
  · rw [List.getElem?_set] at hj hk
    split at hj
    · split at hj
      · cases hj
        cases o0
      · cases hj
    · split at hk
      · split at hk
        · cases hk
          cases o1
        · cases hk
      · exact e.ap j k c0 c1 p hne hj hk o0 o1 hs
/-- what is owned at a slot is changed -/
theorem Env.mutL (e : Env K G0 H0 G H σ cs) {i : Nat} {ds : List PyData} (hi : cs[i]? = some (.own ds)) {p : Addr} (hσ : σ[i]? = some (some (V.ref p))) {ts : List V} {ds' : List PyData} (h : DtA G ts ds') :
    Env K G0 H0 G (upd H p (.lst ts)) σ (cs.set i (.own ds')) := by
  obtain ⟨v, hv, q, ts0, e1, h0, h1, h2, h3⟩ := e.ok i _ hi (fun z => by cases z)
  rw [hσ] at hv
  cases hv
  cases e1
  have gne : ∀ a u, G a = some u → a ≠ p := fun a u ha z => by
    subst z
    rw [h1] at ha
    cases ha
  refine ⟨⟨e.ext.eg, Evl.Ex.mut e.ext.eh h0, fun a u ha => by rw [upd_ne (gne a u ha)]; exact e.gh a u ha, e.ext.nw⟩, fun j c hj n => ?_, fun j k c0 c1 r hne hj hk o0 o1 hs => ?_, by rw [List.length_set, e.len]⟩
  · rw [List.getElem?_set] at hj
    split at hj
    · rename_i hij
      subst hij
      split at hj
      · cases hj
        exact ⟨_, hσ, p, ts, rfl, h0, h1, upd_same, h⟩
      · cases hj
    · rename_i hij
      obtain ⟨v, hv, r⟩ := e.ok j c hj n
      refine ⟨v, hv, ?_⟩
      cases c with
      | un => trivial
      | scr ns => exact r
      | rng n => exact r
      | ldc kvs => exact r
      | dat d => exact r
      | dic kvs => exact r
      | own es =>
        obtain ⟨q, us, e1, g0, g1, g2, g3⟩ := r
        subst e1
        have : q ≠ p := fun z => by
          subst z
          exact e.ap i j _ _ q hij hi hj rfl rfl hσ hv
        exact ⟨q, us, rfl, g0, g1, by rw [upd_ne this]; exact g2, g3⟩
      | odi es =>
        obtain ⟨q, us, e1, g0, g1, g2, g3⟩ := r
        subst e1
        have : q ≠ p := fun z => by
          subst z
          exact e.ap i j _ _ q hij hi hj rfl rfl hσ hv
        exact ⟨q, us, rfl, g0, g1, by rw [upd_ne this]; exact g2, g3⟩
  · have back : ∀ (j : Nat) c, (cs.set i (.own ds'))[j]? = some c → c.isOwn = true → ∃ c', cs[j]? = some c' ∧ c'.isOwn = true := fun j c hj o => by
      rw [List.getElem?_set] at hj
      split at hj
      · rename_i hij
        subst hij
        exact ⟨_, hi, rfl⟩
      · exact ⟨c, hj, o⟩
    obtain ⟨d0, b0, b1⟩ := back j c0 hj o0
    obtain ⟨d1, b2, b3⟩ := back k c1 hk o1
    exact e.ap j k d0 d1 r hne b0 b2 b1 b3 hs
theorem Env.mutD (e : Env K G0 H0 G H σ cs) {i : Nat} {ds : List (Key × PyData)} (hi : cs[i]? = some (.odi ds)) {p : Addr} (hσ : σ[i]? = some (some (V.ref p))) {ts : List (Key × V)} {ds' : List (Key × PyData)} (h : KvOk G ts ds') :
    Env K G0 H0 G (upd H p (.dK ts)) σ (cs.set i (.odi ds')) := by
  obtain ⟨v, hv, q, ts0, e1, h0, h1, h2, h3⟩ := e.ok i _ hi (fun z => by cases z)
  rw [hσ] at hv
  cases hv
  cases e1
  have gne : ∀ a u, G a = some u → a ≠ p := fun a u ha z => by
    subst z
    rw [h1] at ha
    cases ha
  refine ⟨⟨e.ext.eg, Evl.Ex.mut e.ext.eh h0, fun a u ha => by rw [upd_ne (gne a u ha)]; exact e.gh a u ha, e.ext.nw⟩, fun j c hj n => ?_, fun j k c0 c1 r hne hj hk o0 o1 hs => ?_, by rw [List.length_set, e.len]⟩
  · rw [List.getElem?_set] at hj
    split at hj
    · rename_i hij
      subst hij
      split at hj
      · cases hj
        exact ⟨_, hσ, p, ts, rfl, h0, h1, upd_same, h⟩
      · cases hj
    · rename_i hij
      obtain ⟨v, hv, r⟩ := e.ok j c hj n
      refine ⟨v, hv, ?_⟩
      cases c with
      | un => trivial
      | scr ns => exact r
      | rng n => exact r
      | ldc kvs => exact r
      | dat d => exact r
      | dic kvs => exact r
      | own es =>
        obtain ⟨q, us, e1, g0, g1, g2, g3⟩ := r
        subst e1
        have : q ≠ p := fun z => by
          subst z
          exact e.ap i j _ _ q hij hi hj rfl rfl hσ hv
        exact ⟨q, us, rfl, g0, g1, by rw [upd_ne this]; exact g2, g3⟩
      | odi es =>
        obtain ⟨q, us, e1, g0, g1, g2, g3⟩ := r
        subst e1
        have : q ≠ p := fun z => by
          subst z
          exact e.ap i j _ _ q hij hi hj rfl rfl hσ hv
        exact ⟨q, us, rfl, g0, g1, by rw [upd_ne this]; exact g2, g3⟩
  · have back : ∀ (j : Nat) c, (cs.set i (.odi ds'))[j]? = some c → c.isOwn = true → ∃ c', cs[j]? = some c' ∧ c'.isOwn = true := fun j c hj o => by
      rw [List.getElem?_set] at hj
      split at hj
      · rename_i hij
        subst hij
        exact ⟨_, hi, rfl⟩
      · exact ⟨c, hj, o⟩
    obtain ⟨d0, b0, b1⟩ := back j c0 hj o0
    obtain ⟨d1, b2, b3⟩ := back k c1 hk o1
    exact e.ap j k d0 d1 r hne b0 b2 b1 b3 hs
mutual
theorem dt_dp : ∀ (d : PyData) (v : V), Dt G v d → Dp K G v d
  | .none, _, h => by cases h; exact .non
  | .bool b, _, h => by cases h; exact .bl b
  | .int i, _, h => by cases h; exact .int i
  | .str x, _, h => by cases h; exact .str x
  | .list ds, _, h => by
    cases h with
    | lst hs ha => exact .lst (SqL.of hs) (dta_dp ds _ ha)
  | .tuple ds, _, h => by
    cases h with
    | tup hs ha => exact .tup (SqT.of hs) (dta_dp ds _ ha)
  | .dict _, _, h => by cases h
theorem dta_dp : ∀ (ds : List PyData) (vs : List V), DtA G vs ds → DpAll K G vs ds
  | [], _, h => by cases h; exact .nil
  | d :: ds, _, h => by
    cases h with
    | cons h1 h2 => exact .cons (dt_dp d _ h1) (dta_dp ds _ h2)
end
end
end Fw

set_option maxRecDepth 100000
set_option maxHeartbeats 4000000
namespace Fw
open PySem PySem.Spec PyProof.Rows L2
open Evl (Ex)

/-! ### what a piece of syntax does, whatever its derivation -/
section
variable (X : Cx)
def vE (e : Expr) : TE := fun σ H Q => ∃ t, PE X e t ∧ t σ H Q
def vT (e : Expr) : TT := fun σ H Q => ∃ t, PT X e t ∧ t σ H Q
def vW (e : Expr) : TT := fun σ H Q => ∃ t, PW X e t ∧ t σ H Q
def vA (es : List Expr) : TA := fun σ H Q => ∃ t, PA X es t ∧ t σ H Q
def vS (st : Stmt) : TS := fun D σ H => ∃ t, PS X st t ∧ t D σ H
def vSs (st : List Stmt) : TS := fun D σ H => ∃ t, PSs X st t ∧ t D σ H
def vG (tg : Expr) : TG := fun v σ H Q => ∃ t, PG X tg t ∧ t v σ H Q
def vGs (tgs : List Expr) : TGs := fun v σ H Q => ∃ t, PGs X tgs t ∧ t v σ H Q
def vI (tg it : Expr) : TI := fun σ H R => ∃ t, PI X tg it t ∧ t σ H R
end
section
variable {X : Cx}
theorem pe_v {e : Expr} : PE X e (vE X e) := ⟨fun pins s σ H Q I ⟨_, h, q⟩ => h.run pins s σ H Q I q⟩
theorem pt_v {e : Expr} : PT X e (vT X e) := ⟨fun pins s σ H Q I ⟨_, h, q⟩ => h.run pins s σ H Q I q⟩
theorem pw_v {e : Expr} : PW X e (vW X e) := ⟨fun whole pins s σ H Q I ⟨_, h, q⟩ => h.run whole pins s σ H Q I q⟩
theorem pa_v {es : List Expr} : PA X es (vA X es) := ⟨fun pos pins s σ H Q I ⟨_, h, q⟩ => h.run pos pins s σ H Q I q⟩
theorem ps_v {st : Stmt} : PS X st (vS X st) := ⟨fun pins s σ H D I ⟨_, h, q⟩ => h.run pins s σ H D I q⟩
theorem pss_v {st : List Stmt} : PSs X st (vSs X st) := ⟨fun pins s σ H D I ⟨_, h, q⟩ => h.run pins s σ H D I q⟩
theorem pg_v {tg : Expr} : PG X tg (vG X tg) := ⟨fun pins s σ H v u Q I r ⟨_, h, q⟩ => h.run pins s σ H v u Q I r q⟩
theorem pgs_v {tg : List Expr} : PGs X tg (vGs X tg) := ⟨fun pins s σ H v u Q I r ⟨_, h, q⟩ => h.run pins s σ H v u Q I r q⟩
theorem pi_v {tg it : Expr} : PI X tg it (vI X tg it) := ⟨fun pins s σ H R I ⟨_, h, q⟩ => h.run pins s σ H R I q⟩
end

/-! ### judgements over cells -/
section
variable (X : Cx) (cs : List Cell)
structure XEP (e : Expr) (P : Cell → Prop) : Prop where
  run : ∀ {G0 H0 G H : Hp} {σ : L2.St}, Env X.K G0 H0 G H σ cs → ∀ {Q : VK}, (∀ v G' H' c, P c → Ext G H G' H' → ROk X.K H G' H' v c → Q v H') → vE X e σ H Q
structure XE (e : Expr) (c : Cell) : Prop where
  run : ∀ {G0 H0 G H : Hp} {σ : L2.St}, Env X.K G0 H0 G H σ cs → ∀ {Q : VK}, (∀ v G' H', Ext G H G' H' → ROk X.K H G' H' v c → Q v H') → vE X e σ H Q
structure XA (es : List Expr) (cl : List Cell) : Prop where
  run : ∀ {G0 H0 G H : Hp} {σ : L2.St}, Env X.K G0 H0 G H σ cs → ∀ {Q : List V → Hp → Prop}, (∀ vs G' H', Ext G H G' H' → Paired (FrOk X.K G') vs cl → Q vs H') → vA X es σ H Q
structure XD (es : List Expr) (ds : List PyData) : Prop where
  run : ∀ {G0 H0 G H : Hp} {σ : L2.St}, Env X.K G0 H0 G H σ cs → ∀ {Q : List V → Hp → Prop}, (∀ vs G' H', Ext G H G' H' → DtA G' vs ds → Q vs H') → vA X es σ H Q
structure XT (e : Expr) (b : Bool) : Prop where
  run : ∀ {G0 H0 G H : Hp} {σ : L2.St}, Env X.K G0 H0 G H σ cs → ∀ {Q : Bool → Hp → Prop}, (∀ H', Ex H H' → Q b H') → vT X e σ H Q
structure XW (e : Expr) (b : Bool) : Prop where
  run : ∀ {G0 H0 G H : Hp} {σ : L2.St}, Env X.K G0 H0 G H σ cs → ∀ {Q : Bool → Hp → Prop}, (∀ H', Ex H H' → Q b H') → vW X e σ H Q
structure XG (tg : Expr) (d : PyData) (P : List Cell → Prop) : Prop where
  run : ∀ {G0 H0 G H : Hp} {σ : L2.St}, Env X.K G0 H0 G H σ cs → ∀ {v : V}, Dt G v d → ∀ {Q : L2.St → Hp → Prop}, (∀ G' H' σ' cs', P cs' → Env X.K G0 H0 G' H' σ' cs' → Ex G G' → Q σ' H') → vG X tg v σ H Q
structure XGs (tgs : List Expr) (ds : List PyData) (P : List Cell → Prop) : Prop where
  run : ∀ {G0 H0 G H : Hp} {σ : L2.St}, Env X.K G0 H0 G H σ cs → ∀ {vs : List V}, DtA G vs ds → ∀ {Q : L2.St → Hp → Prop}, (∀ G' H' σ' cs', P cs' → Env X.K G0 H0 G' H' σ' cs' → Ex G G' → Q σ' H') → vGs X tgs vs σ H Q
end
def WalkD (G : Hp) (J : It) (ds : List PyData) : Prop := ∃ Y, Walk J ds.length (fun H => Ex G H) Y ∧ ∀ i H x H', i < ds.length → Ex G H → Y i H x H' → ∀ G1, Ex G G1 → Ex G1 H → ∃ G2 d, Ext G1 H G2 H' ∧ ds[i]? = some d ∧ Dt G2 x d
structure XI (X : Cx) (cs : List Cell) (tg it : Expr) (ds : List PyData) : Prop where
  run : ∀ {G0 H0 G H : Hp} {σ : L2.St}, Env X.K G0 H0 G H σ cs → ∀ {R : It → Hp → Prop}, (∀ J G' H', Ext G H G' H' → WalkD G' J ds → R J H') → vI X tg it σ H R

section
variable {X : Cx} {cs : List Cell}
instance {e : Expr} {P : Cell → Prop} : CoeFun (XEP X cs e P) (fun _ => ∀ {G0 H0 G H : Hp} {σ : L2.St}, Env X.K G0 H0 G H σ cs → ∀ {Q : VK}, (∀ v G' H' c, P c → Ext G H G' H' → ROk X.K H G' H' v c → Q v H') → vE X e σ H Q) := ⟨fun h => h.run⟩
instance {e : Expr} {c : Cell} : CoeFun (XE X cs e c) (fun _ => ∀ {G0 H0 G H : Hp} {σ : L2.St}, Env X.K G0 H0 G H σ cs → ∀ {Q : VK}, (∀ v G' H', Ext G H G' H' → ROk X.K H G' H' v c → Q v H') → vE X e σ H Q) := ⟨fun h => h.run⟩
instance {es : List Expr} {cl : List Cell} : CoeFun (XA X cs es cl) (fun _ => ∀ {G0 H0 G H : Hp} {σ : L2.St}, Env X.K G0 H0 G H σ cs → ∀ {Q : List V → Hp → Prop}, (∀ vs G' H', Ext G H G' H' → Paired (FrOk X.K G') vs cl → Q vs H') → vA X es σ H Q) := ⟨fun h => h.run⟩
instance {es : List Expr} {ds : List PyData} : CoeFun (XD X cs es ds) (fun _ => ∀ {G0 H0 G H : Hp} {σ : L2.St}, Env X.K G0 H0 G H σ cs → ∀ {Q : List V → Hp → Prop}, (∀ vs G' H', Ext G H G' H' → DtA G' vs ds → Q vs H') → vA X es σ H Q) := ⟨fun h => h.run⟩
instance {e : Expr} {b : Bool} : CoeFun (XT X cs e b) (fun _ => ∀ {G0 H0 G H : Hp} {σ : L2.St}, Env X.K G0 H0 G H σ cs → ∀ {Q : Bool → Hp → Prop}, (∀ H', Ex H H' → Q b H') → vT X e σ H Q) := ⟨fun h => h.run⟩
instance {e : Expr} {b : Bool} : CoeFun (XW X cs e b) (fun _ => ∀ {G0 H0 G H : Hp} {σ : L2.St}, Env X.K G0 H0 G H σ cs → ∀ {Q : Bool → Hp → Prop}, (∀ H', Ex H H' → Q b H') → vW X e σ H Q) := ⟨fun h => h.run⟩
instance {tg : Expr} {d : PyData} {P : List Cell → Prop} : CoeFun (XG X cs tg d P) (fun _ => ∀ {G0 H0 G H : Hp} {σ : L2.St}, Env X.K G0 H0 G H σ cs → ∀ {v : V}, Dt G v d → ∀ {Q : L2.St → Hp → Prop}, (∀ G' H' σ' cs', P cs' → Env X.K G0 H0 G' H' σ' cs' → Ex G G' → Q σ' H') → vG X tg v σ H Q) := ⟨fun h => h.run⟩
instance {tgs : List Expr} {ds : List PyData} {P : List Cell → Prop} : CoeFun (XGs X cs tgs ds P) (fun _ => ∀ {G0 H0 G H : Hp} {σ : L2.St}, Env X.K G0 H0 G H σ cs → ∀ {vs : List V}, DtA G vs ds → ∀ {Q : L2.St → Hp → Prop}, (∀ G' H' σ' cs', P cs' → Env X.K G0 H0 G' H' σ' cs' → Ex G G' → Q σ' H') → vGs X tgs vs σ H Q) := ⟨fun h => h.run⟩
instance {tg it : Expr} {ds : List PyData} : CoeFun (XI X cs tg it ds) (fun _ => ∀ {G0 H0 G H : Hp} {σ : L2.St}, Env X.K G0 H0 G H σ cs → ∀ {R : It → Hp → Prop}, (∀ J G' H', Ext G H G' H' → WalkD G' J ds → R J H') → vI X tg it σ H R) := ⟨fun h => h.run⟩
end
/-! operations by data -/
def BinD (X : Cx) (op : Operator) (d e : PyData) (c : Cell) : Prop := ∃ r, OpR X (binaryOp op) r ∧ ∀ {G H : Hp} {x y : V}, Ex G H → Dt G x d → Dt G y e → ∀ {Q : VK}, (∀ v G' H', Ext G H G' H' → ROk X.K H G' H' v c → Q v H') → r x y H Q
def UnD (X : Cx) (op : UnaryOp) (d : PyData) (c : Cell) : Prop := ∃ r, UnR X (unaryOp op) r ∧ ∀ {G H : Hp} {x : V}, Ex G H → Dt G x d → ∀ {Q : VK}, (∀ v G' H', Ext G H G' H' → ROk X.K H G' H' v c → Q v H') → r x H Q
def CmpD (X : Cx) (op : CmpOp) (d e : PyData) (b : Bool) : Prop := ∃ r, OpR X (compareOp op) r ∧ ∀ {G H : Hp} {x y : V}, Ex G H → Dt G x d → Dt G y e → ∀ {Q : VK}, Q (.bl b) H → r x y H Q
def IxD (X : Cx) (d e : PyData) (c : Cell) : Prop := ∃ r, IxR X r ∧ ∀ {G H : Hp} {x y : V}, Ex G H → Dt G x d → Dt G y e → ∀ {Q : VK}, (∀ v G' H', Ext G H G' H' → ROk X.K H G' H' v c → Q v H') → r x y H Q
def CallD (X : Cx) (f : Value) (ds : List PyData) (c : Cell) : Prop := ∃ r, CallR X f r ∧ ∀ {G H : Hp} {vs : List V}, Ex G H → DtA G vs ds → ∀ {Q : VK}, (∀ v G' H', Ext G H G' H' → ROk X.K H G' H' v c → Q v H') → r vs H Q

section
variable {X : Cx} {cs : List Cell} {pos p pos' : Pos}
theorem XE.xep {e : Expr} {c : Cell} (h : XE X cs e c) : XEP X cs e (fun c' => c' = c) := .mk fun en Q q => h en fun v G' H' x r => q v G' H' c rfl x r
theorem xe_fr {e : Expr} {c : Cell} (h : XE X cs e c) (n : c ≠ .un := by intro z; cases z) : XE X cs e c.fr := .mk fun en Q q => h en fun v G' H' x r => by
  obtain ⟨G2, x2, _, r2⟩ := r.seal x n
  exact q v G2 H' x2 r2.rok
theorem xe_int {i : Int} {j} : XE X cs (.Constant (.int i) j pos) (.dat (.int i)) := .mk fun en Q q => ⟨_, pe_int, q _ _ _ (Ext.refl en.gh) (.int i)⟩
theorem xe_bl {i : Bool} {j} : XE X cs (.Constant (.bool i) j pos) (.dat (.bool i)) := .mk fun en Q q => ⟨_, pe_bl, q _ _ _ (Ext.refl en.gh) (.bl i)⟩
theorem xe_non {j} : XE X cs (.Constant .none j pos) (.dat .none) := .mk fun en Q q => ⟨_, pe_non, q _ _ _ (Ext.refl en.gh) .non⟩
theorem xe_str {x : Str} {j} : XE X cs (.Constant (.str x) j pos) (.dat (.str x)) := .mk fun en Q q => ⟨_, pe_str, q _ _ _ (Ext.refl en.gh) (.str x)⟩
theorem xe_nm (i : Nat) {x : Str} {c : Cell} (hc : cs[i]? = some c) (ho : c.isOwn = false) (hu : c ≠ .un) (hN : X.N[i]? = some x) (hv : Vis X.env.scope x) (hd : (x == ("__debug__" : Str)) = false := by decide)
    (hcd : (x == ("__classdict__" : Str)) = false := by decide) : XE X cs (.Name x pos) c := .mk fun en Q q => ⟨_, pe_var hN hv hd hcd, by
  obtain ⟨v, h1, h2⟩ := en.ok i c hc hu
  refine ⟨v, h1, q _ _ _ (Ext.refl en.gh) ?_⟩
  cases c <;> first | exact h2 | (cases ho)⟩
theorem xe_dt (i : Nat) {x : Str} {d : PyData} (hc : cs[i]? = some (.dat d)) (hN : X.N[i]? = some x) (hv : Vis X.env.scope x) (hd : (x == ("__debug__" : Str)) = false := by decide)
    (hcd : (x == ("__classdict__" : Str)) = false := by decide) : XE X cs (.Name x pos) (.dat d) := xe_nm i hc rfl (by intro z; cases z) hN hv hd hcd
theorem xe_glob {x : Str} {v : V} {u : Value} {d : PyData} (hm : X.mg x = some u) (hg : Gl X x) (r : RelV v u) (hd' : ∀ G, Dt G v d) (hd : (x == ("__debug__" : Str)) = false := by decide) : XE X cs (.Name x pos) (.dat d) := .mk fun en Q q =>
  ⟨_, pe_glob hg hm r hd, q _ _ _ (Ext.refl en.gh) (hd' _)⟩
theorem xe_bin {a b : Expr} {op : Operator} {d e : PyData} {c : Cell} (ha : XE X cs a (.dat d)) (hb : XE X cs b (.dat e)) (h : BinD X op d e c) : XE X cs (.BinOp a op b pos) c := .mk fun en Q q => by
  obtain ⟨r, hr, h⟩ := h
  refine ⟨_, pe_op hr pe_v pe_v, ha en fun x G1 H1 x1 r1 => hb (en.step x1) fun y G2 H2 x2 r2 => h x2.gh (dp_mono x2.eg _ _ r1) r2 fun v G3 H3 x3 r3 => q v G3 H3 ((x1.trans x2).trans x3) (r3.base (x1.trans x2).eh)⟩
theorem xe_unop {a : Expr} {op : UnaryOp} {d : PyData} {c : Cell} (ha : XE X cs a (.dat d)) (h : UnD X op d c) : XE X cs (.UnaryOp op a pos) c := .mk fun en Q q => by
  obtain ⟨r, hr, h⟩ := h
  refine ⟨_, pe_un hr pe_v, ha en fun x G1 H1 x1 r1 => h x1.gh r1 fun v G3 H3 x3 r3 => q v G3 H3 (x1.trans x3) (r3.base x1.eh)⟩
theorem xe_cmp {a b : Expr} {op : CmpOp} {d e : PyData} {k : Bool} (ha : XE X cs a (.dat d)) (hb : XE X cs b (.dat e)) (h : CmpD X op d e k) (hm : behindInMarks op b = false := by first | exact nomark _ | rfl) : XE X cs (.Compare a [op] [b] pos) (.dat (.bool k)) := .mk fun en Q q => by
  obtain ⟨r, hr, h⟩ := h
  refine ⟨_, pe_cmpR hr pe_v pe_v hm, ha en fun x G1 H1 x1 r1 => hb (en.step x1) fun y G2 H2 x2 r2 => h x2.gh (dp_mono x2.eg _ _ r1) r2 (q _ G2 H2 (x1.trans x2) (.bl k))⟩
theorem xe_ix {a b : Expr} {d e : PyData} {c : Cell} (ha : XE X cs a (.dat d)) (hb : XE X cs b (.dat e)) (h : IxD X d e c) (hs : PlainIx b := by exact fun _ _ => rfl) : XE X cs (.Subscript a b pos) c := .mk fun en Q q => by
  obtain ⟨r, hr, h⟩ := h
  refine ⟨_, pe_ix hr pe_v pe_v hs, ha en fun x G1 H1 x1 r1 => hb (en.step x1) fun y G2 H2 x2 r2 => h x2.gh (dp_mono x2.eg _ _ r1) r2 fun v G3 H3 x3 r3 => q v G3 H3 ((x1.trans x2).trans x3) (r3.base (x1.trans x2).eh)⟩
/-! arguments -/
theorem xd_nil : XD X cs [] [] := .mk fun en Q q => ⟨_, pa_nil, q _ _ _ (Ext.refl en.gh) .nil⟩
theorem xd_cons {e : Expr} {es : List Expr} {d : PyData} {ds : List PyData} (h : XE X cs e (.dat d)) (hr : XD X cs es ds) (hs : starEach (e :: es) X.env = (false, eval e X.env) :: starEach es X.env := by rfl) : XD X cs (e :: es) (d :: ds) := .mk fun en Q q =>
  ⟨_, pa_cons pe_v pa_v hs, h en fun v G1 H1 x1 r1 => hr (en.step x1) fun vs G2 H2 x2 r2 => q (v :: vs) G2 H2 (x1.trans x2) (.cons (dp_mono x2.eg _ _ r1) r2)⟩
theorem Pr.mono {K : PySem.W.Frag} {G G' : Hp} (e : Ex G G') {vs : List V} {cl : List Cell} (h : Paired (FrOk K G) vs cl) : Paired (FrOk K G') vs cl := Paired.mapP h fun _ _ z => z.mono e
theorem xa_nil : XA X cs [] [] := .mk fun en Q q => ⟨_, pa_nil, q _ _ _ (Ext.refl en.gh) .nil⟩
theorem xa_cons {e : Expr} {es : List Expr} {c : Cell} {cl : List Cell} (h : XE X cs e c) (n : c ≠ .un) (hr : XA X cs es cl) (hs : starEach (e :: es) X.env = (false, eval e X.env) :: starEach es X.env := by rfl) : XA X cs (e :: es) (c.fr :: cl) := .mk fun en Q q =>
  ⟨_, pa_cons pe_v pa_v hs, h en fun v G1 H1 x1 r1 => by
    obtain ⟨G2, x2, _, r2⟩ := r1.seal x1 n
    exact hr (en.step x2) fun vs G3 H3 x3 r3 => q (v :: vs) G3 H3 (x2.trans x3) (.cons (r2.mono x3.eg) r3)⟩
theorem xe_list {es : List Expr} {ds : List PyData} (h : XD X cs es ds) (hl : ds.length ≤ 100000 := by exact Nat.le_of_ble_eq_true rfl) : XE X cs (.List es pos) (.own ds) := .mk fun en Q q =>
  ⟨_, pe_lst pa_v, h en fun vs G1 H1 x1 r1 => ⟨by rw [dpa_len r1]; exact Evl.sz_of hl, fun p hp => q _ G1 _ (x1.trans (Ext.heap x1.gh (Evl.Ex.new hp))) ⟨p, vs, rfl, Evl.fresh_back x1.eh hp, Evl.fresh_back x1.gh hp, upd_same, r1⟩⟩⟩
theorem xe_tup {es : List Expr} {ds : List PyData} {k} (h : XD X cs es ds) (hl : ds.length ≤ 100000 := by exact Nat.le_of_ble_eq_true rfl) : XE X cs (.Tuple es k pos) (.dat (.tuple ds)) := .mk fun en Q q =>
  ⟨_, pe_tup pa_v, h en fun vs G1 H1 x1 r1 => ⟨by rw [dpa_len r1]; exact Evl.sz_of hl, fun p hp => q _ _ _ (x1.trans (Ext.new x1.gh hp)) (.tup upd_same (dpa_mono (Evl.Ex.new (Evl.fresh_back x1.gh hp)) _ _ r1))⟩⟩
theorem xe_callB {x : Str} {id : String} {e : Expr} {es : List Expr} {ds : List PyData} {c : Cell} (h : CallD X (.builtin id) ds c) (hm : X.mg x = none) (hv : bootBuiltins x = some (.builtin id)) (hg : Gl X x) (ha : XD X cs (e :: es) ds) (hn : x ≠ "__name__" := by decide) (hdb : (x == ("__debug__" : Str)) = false := by decide)
    (he : starEach (e :: es) X.env = (false, eval e X.env) :: starEach es X.env := by rfl) (hpl : (backTo pos (starEach es X.env)).any (·.1) = false := by rfl) : XE X cs (.Call (.Name x p) (e :: es) [] pos) c := .mk fun en Q q => by
  obtain ⟨r, hr, h⟩ := h
  exact ⟨_, pe_callB hr hg hm hv pa_v hn hdb he hpl, ha en fun vs G1 H1 x1 r1 => h x1.gh r1 fun v G3 H3 x3 r3 => q v G3 H3 (x1.trans x3) (r3.base x1.eh)⟩
theorem xe_callTy {x : Str} {T : String} {e : Expr} {es : List Expr} {ds : List PyData} {c : Cell} (h : CallD X (.type T) ds c) (hm : X.mg x = none) (hv : bootBuiltins x = some (.type T)) (hg : Gl X x) (ha : XD X cs (e :: es) ds) (hn : x ≠ "__name__" := by decide) (hdb : (x == ("__debug__" : Str)) = false := by decide)
    (he : starEach (e :: es) X.env = (false, eval e X.env) :: starEach es X.env := by rfl) (hpl : (backTo pos (starEach es X.env)).any (·.1) = false := by rfl) : XE X cs (.Call (.Name x p) (e :: es) [] pos) c := .mk fun en Q q => by
  obtain ⟨r, hr, h⟩ := h
  exact ⟨_, pe_callTy hr hg hm hv pa_v hn hdb he hpl, ha en fun vs G1 H1 x1 r1 => h x1.gh r1 fun v G3 H3 x3 r3 => q v G3 H3 (x1.trans x3) (r3.base x1.eh)⟩
end

/-! ### contracts -/
def Con (K : PySem.W.Frag) {α : Type} (pre : α → List Cell) (post : α → Cell → Prop) : Sp := fun vs H Q _ =>
  ∃ (a : α) (G : Hp), Ex G H ∧ Paired (FrOk K G) vs (pre a) ∧ ∀ v G' H' c, post a c → Ext G H G' H' → ROk K H G' H' v c → Q v H'
/-- a def that keeps a promise, by the name it has -/
def Cal (P : Program) (w : World) (K : PySem.W.Frag) (mg : Str → Option Value) (base : Heap) (x : Str) (k : Nat) (sp : Sp) : Prop :=
  ∃ f fd ps, FnOk P w K mg base CX0 k f fd ps sp ∧ mg x = some (.ref f) ∧ PySem.W.keepIn K (.ref f) = true ∧ Binds K fd ps []
section
variable {X : Cx} {cs : List Cell} {pos p pos' : Pos}
theorem xe_call {x : Str} {k : Nat} {α : Type} {pre : α → List Cell} {post : α → Cell → Prop} (C : Cal X.prog X.w X.K X.mg X.base x k (Con X.K pre post)) (hr : Room k X.A) (a : α) {e : Expr} {es : List Expr} (ha : XA X cs (e :: es) (pre a)) (hg : Gl X x := by rfl)
    (hdb : (x == ("__debug__" : Str)) = false := by decide) (he : starEach (e :: es) X.env = (false, eval e X.env) :: starEach es X.env := by rfl) (hpl : (backTo pos (starEach es X.env)).any (·.1) = false := by rfl) :
    XEP X cs (.Call (.Name x p) (e :: es) [] pos) (post a) := .mk fun en Q q => by
  obtain ⟨f, fd, ps, F, hm, hk, hb⟩ := C
  refine ⟨_, pe_call F hr hg hm hk hb .nil pass0 pa_v hdb he hpl, ha en fun vs G1 H1 x1 r1 => ⟨a, G1, x1.gh, ?_, fun v G' H' c pc x2 r2 => q v G' H' c pc (x1.trans x2) (r2.base x1.eh)⟩⟩
  rw [List.append_nil]
  exact r1
/-- .. whose value is told exactly -/
theorem xe_callE {x : Str} {k : Nat} {α : Type} {pre : α → List Cell} {post : α → Cell → Prop} (C : Cal X.prog X.w X.K X.mg X.base x k (Con X.K pre post)) (hr : Room k X.A) (a : α) {c : Cell} (hp : post a c) {e : Expr} {es : List Expr} (ha : XA X cs (e :: es) (pre a)) (hg : Gl X x := by rfl)
    (hdb : (x == ("__debug__" : Str)) = false := by decide) (he : starEach (e :: es) X.env = (false, eval e X.env) :: starEach es X.env := by rfl) (hpl : (backTo pos (starEach es X.env)).any (·.1) = false := by rfl) :
    (∀ c', post a c' → c' = c) → XE X cs (.Call (.Name x p) (e :: es) [] pos) c := fun un => .mk fun en Q q => xe_call C hr a ha hg hdb he hpl en fun v G' H' c' pc x r => by
  have e := un c' pc
  subst e
  exact q v G' H' x r
end
end Fw

set_option maxRecDepth 100000
set_option maxHeartbeats 4000000
namespace Fw
open PySem PySem.Spec PyProof.Rows L2
open Evl (Ex)

section
variable {X : Cx} {cs : List Cell} {pos p pos' : Pos}
/-! ### tests -/
theorem XT.frz {e : Expr} {b : Bool} (h : XT X (cs.map Cell.fr) e b) : XT X cs e b := .mk fun en Q q => h en.frz q
def scalD : PyData → Bool
  | .none => true | .bool _ => true | .int _ => true | .str _ => true | _ => false
theorem dt_scal {G G' : Hp} {d : PyData} {v : V} (h : Dt G v d) (s : scalD d = true) : Dt G' v d := by
  cases h with
  | non => exact .non
  | bl b => exact .bl b
  | int i => exact .int i
  | str x => exact .str x
  | lst _ _ => cases s
  | tup _ _ => cases s
/-- a scalar is reckoned while all is frozen -/
theorem XE.frz {e : Expr} {d : PyData} (h : XE X (cs.map Cell.fr) e (.dat d)) (s : scalD d = true) : XE X cs e (.dat d) := .mk fun en Q q => h en.frz fun v G' H' x r => q v _ H' (Ext.heap en.gh x.eh) (dt_scal r s)
theorem xt_val {e : Expr} {b : Bool} (h : XE X cs e (.dat (.bool b))) (he : ∀ whole, isTrue e X.env whole = (do let v ← whole; standAt e.pos; holding [v] (truthy v)) := by intro _; rfl) : XT X cs e b := .mk fun en Q q =>
  ⟨_, pt_val pe_v he, h en fun v G' H' x r => by
    cases r
    exact ⟨b, rfl, q H' x.eh⟩⟩
theorem xt_cmp {a b : Expr} {op : CmpOp} {d e : PyData} {k : Bool} (ha : XE X cs a (.dat d)) (hb : XE X cs b (.dat e)) (h : CmpD X op d e k) (hm : behindInMarks op b = false := by first | exact nomark _ | rfl) : XT X cs (.Compare a [op] [b] pos) k := .mk fun en Q q => by
  obtain ⟨r, hr, h⟩ := h
  refine ⟨_, pt_cmpR hr pe_v pe_v hm, ha en fun x G1 H1 x1 r1 => hb (en.step x1) fun y G2 H2 x2 r2 => h x2.gh (dp_mono x2.eg _ _ r1) r2 ⟨k, rfl, q H2 (x1.trans x2).eh⟩⟩
theorem xt_not {a : Expr} {b : Bool} (h : XT X cs a b) : XT X cs (.UnaryOp .Not a pos) (!b) := .mk fun en Q q => ⟨_, pt_not pt_v, h en fun H' x => q H' x⟩
theorem xt_pw {a : Expr} {b : Bool} (h : XW X cs a b) : XT X cs a b := .mk fun en Q q => ⟨_, PW.pt pw_v, h en q⟩
theorem xw_and1 {a : Expr} {b : Bool} (h : XT X cs a b) : XW X cs (.BoolOp .And [a] pos) b := .mk fun en Q q => ⟨_, pw_and1 pt_v, h en q⟩
theorem xw_or1 {a : Expr} {b : Bool} (h : XT X cs a b) : XW X cs (.BoolOp .Or [a] pos) b := .mk fun en Q q => ⟨_, pw_or1 pt_v, h en q⟩
theorem xw_and {a c : Expr} {rest : List Expr} {x y : Bool} (h : XT X cs a x) (hr : x = true → XW X cs (.BoolOp .And (c :: rest) pos) y) : XW X cs (.BoolOp .And (a :: c :: rest) pos) (x && y) := .mk fun en Q q =>
  ⟨_, pw_and pt_v pw_v, h en fun H' e => by
    cases x with
    | true => exact hr rfl (en.step (Ext.heap en.gh e)) fun H2 e2 => q H2 (e.trans e2)
    | false => exact q H' e⟩
theorem xw_or {a c : Expr} {rest : List Expr} {x y : Bool} (h : XT X cs a x) (hr : x = false → XW X cs (.BoolOp .Or (c :: rest) pos) y) : XW X cs (.BoolOp .Or (a :: c :: rest) pos) (x || y) := .mk fun en Q q =>
  ⟨_, pw_or pt_v pw_v, h en fun H' e => by
    cases x with
    | true => exact q H' e
    | false => exact hr rfl (en.step (Ext.heap en.gh e)) fun H2 e2 => q H2 (e.trans e2)⟩
theorem XT.is {e : Expr} {a b : Bool} (h : XT X cs e a) (q : a = b) : XT X cs e b := by
  subst q
  exact @h
theorem XE.is {e : Expr} {a b : Cell} (h : XE X cs e a) (q : a = b) : XE X cs e b := by
  subst q
  exact @h
/-! booleans as values -/
theorem xe_one {a : Expr} {op} {c : Cell} (h : XE X cs a c) : XE X cs (.BoolOp op [a] pos) c := .mk fun en Q q => ⟨_, pe_one pe_v, h en q⟩
theorem xe_and {a c : Expr} {rest : List Expr} {x y : Bool} (h : XE X cs a (.dat (.bool x))) (hr : x = true → XE X cs (.BoolOp .And (c :: rest) pos) (.dat (.bool y))) : XE X cs (.BoolOp .And (a :: c :: rest) pos) (.dat (.bool (x && y))) := .mk fun en Q q =>
  ⟨_, pe_and pe_v pe_v, h en fun v G' H' e r => by
    cases r
    refine ⟨x, rfl, ?_⟩
    cases x with
    | true => exact hr rfl (en.step e) fun v G2 H2 e2 r2 => q v G2 H2 (e.trans e2) (r2.base e.eh)
    | false => exact q _ G' H' e (.bl false)⟩
theorem xe_or {a c : Expr} {rest : List Expr} {x y : Bool} (h : XE X cs a (.dat (.bool x))) (hr : x = false → XE X cs (.BoolOp .Or (c :: rest) pos) (.dat (.bool y))) : XE X cs (.BoolOp .Or (a :: c :: rest) pos) (.dat (.bool (x || y))) := .mk fun en Q q =>
  ⟨_, pe_or pe_v pe_v, h en fun v G' H' e r => by
    cases r
    refine ⟨x, rfl, ?_⟩
    cases x with
    | true => exact q _ G' H' e (.bl true)
    | false => exact hr rfl (en.step e) fun v G2 H2 e2 r2 => q v G2 H2 (e.trans e2) (r2.base e.eh)⟩
theorem xe_not {a : Expr} {x : Bool} (h : XE X cs a (.dat (.bool x))) : XE X cs (.UnaryOp .Not a pos) (.dat (.bool (!x))) := .mk fun en Q q => ⟨_, pe_not pe_v, h en fun v G' H' e r => by
    cases r
    exact ⟨x, rfl, q _ G' H' e (.bl _)⟩⟩
theorem xe_if {t a b : Expr} {k : Bool} {c : Cell} (h : XT X cs t k) (h1 : k = true → XE X cs a c) (h2 : k = false → XE X cs b c) : XE X cs (.IfExp t a b pos) c := .mk fun en Q q => ⟨_, pe_ifExp pt_v pe_v pe_v, h en fun H' e => by
    cases k with
    | true => exact h1 rfl (en.step (Ext.heap en.gh e)) fun v G2 H2 e2 r2 => q v G2 H2 ((Ext.heap en.gh e).trans e2) (r2.base e)
    | false => exact h2 rfl (en.step (Ext.heap en.gh e)) fun v G2 H2 e2 r2 => q v G2 H2 ((Ext.heap en.gh e).trans e2) (r2.base e)⟩
end

/-! ### statements -/
structure Po where
  nx : List Cell → Prop
  rt : Cell → Prop
  bk : List Cell → Prop := fun _ => False
  ct : List Cell → Prop := fun _ => False
  ex : Value → Prop := fun _ => False
  E : L2.St → XK := fun _ _ _ _ => False
structure Run (K : PySem.W.Frag) (G0 H0 G : Hp) (P : Po) (D : Ends) : Prop where
  nx : ∀ G' H' σ' cs', P.nx cs' → Env K G0 H0 G' H' σ' cs' → Ex G G' → D.nx σ' H'
  rt : ∀ v G' H' c, P.rt c → Ext G0 H0 G' H' → Ex G G' → ROk K H0 G' H' v c → D.rt v H'
  bk : ∀ G' H' σ' cs', P.bk cs' → Env K G0 H0 G' H' σ' cs' → Ex G G' → D.bk σ' H'
  ct : ∀ G' H' σ' cs', P.ct cs' → Env K G0 H0 G' H' σ' cs' → Ex G G' → D.ct σ' H'
  ex : ∀ cls σ' G' H', P.ex cls → Ext G0 H0 G' H' → Ex G G' → P.E σ' cls none H'
theorem Run.mono {K : PySem.W.Frag} {G0 H0 G G1 : Hp} {P : Po} {D : Ends} (r : Run K G0 H0 G P D) (e : Ex G G1) : Run K G0 H0 G1 P D :=
  ⟨fun G' H' σ' cs' a b c => r.nx G' H' σ' cs' a b (e.trans c), fun v G' H' c' a b c => r.rt v G' H' c' a b (e.trans c), fun G' H' σ' cs' a b c => r.bk G' H' σ' cs' a b (e.trans c), fun G' H' σ' cs' a b c => r.ct G' H' σ' cs' a b (e.trans c), fun cls σ' G' H' a b c => r.ex cls σ' G' H' a b (e.trans c)⟩
structure XS (X : Cx) (cs : List Cell) (st : Stmt) (P : Po) : Prop where
  run : ∀ {G0 H0 G H : Hp} {σ : L2.St}, Env X.K G0 H0 G H σ cs → ∀ {D : Ends}, Run X.K G0 H0 G P D → vS X st D σ H
structure XSs (X : Cx) (cs : List Cell) (st : List Stmt) (P : Po) : Prop where
  run : ∀ {G0 H0 G H : Hp} {σ : L2.St}, Env X.K G0 H0 G H σ cs → ∀ {D : Ends}, Run X.K G0 H0 G P D → vSs X st D σ H
instance {X : Cx} {cs : List Cell} {st : Stmt} {P : Po} : CoeFun (XS X cs st P) (fun _ => ∀ {G0 H0 G H : Hp} {σ : L2.St}, Env X.K G0 H0 G H σ cs → ∀ {D : Ends}, Run X.K G0 H0 G P D → vS X st D σ H) := ⟨fun h => h.run⟩
instance {X : Cx} {cs : List Cell} {st : List Stmt} {P : Po} : CoeFun (XSs X cs st P) (fun _ => ∀ {G0 H0 G H : Hp} {σ : L2.St}, Env X.K G0 H0 G H σ cs → ∀ {D : Ends}, Run X.K G0 H0 G P D → vSs X st D σ H) := ⟨fun h => h.run⟩
section
variable {X : Cx} {cs : List Cell} {pos p pos' : Pos} {P : Po}
theorem xs_nil (h : P.nx cs) : XSs X cs [] P := .mk fun en D r => ⟨_, pss_nil, r.nx _ _ _ _ h en (Evl.Ex.refl _)⟩
theorem xs_cons {st : Stmt} {rest : List Stmt} (h : XS X cs st { P with nx := fun cs' => XSs X cs' rest P }) : XSs X cs (st :: rest) P := .mk fun en D r =>
  ⟨_, pss_cons ps_v pss_v, h en { nx := fun G' H' σ' cs' a b c => a b (r.mono c), rt := r.rt, bk := r.bk, ct := r.ct, ex := r.ex }⟩
theorem XS.imp {st : Stmt} {P' : Po} (h : XS X cs st P) (n : ∀ c, P.nx c → P'.nx c) (rt : ∀ c, P.rt c → P'.rt c) (bk : ∀ c, P.bk c → P'.bk c) (ct : ∀ c, P.ct c → P'.ct c) (ex : ∀ c, P.ex c → P'.ex c := by exact fun _ h => h) (hE : P'.E = P.E := by rfl) : XS X cs st P' := .mk fun en D r =>
  h en ⟨fun G' H' σ' cs' a b c => r.nx G' H' σ' cs' (n _ a) b c, fun v G' H' c a => r.rt v G' H' c (rt _ a), fun G' H' σ' cs' a b c => r.bk G' H' σ' cs' (bk _ a) b c, fun G' H' σ' cs' a b c => r.ct G' H' σ' cs' (ct _ a) b c, fun cls σ' G' H' a b c => by rw [← hE]; exact r.ex cls σ' G' H' (ex _ a) b c⟩
theorem x_setP (i : Nat) {x : Str} {e : Expr} {R : Cell → Prop} (he : XEP X cs e R) (hi : X.N[i]? = some x) (hx : Loc X.env.scope x) (hN : X.N.Nodup) (k : ∀ c, R c → P.nx (cs.set i c)) (hs : swapsWith e (some (.Name x pos')) pos.line X.env = pure false := by rfl)
    (hf : X.fn x = true ∨ X.env.scope.names.lookup x = some .local := by first | exact .inl rfl | exact .inr rfl) : XS X cs (.Assign [.Name x pos'] e pos) P := .mk fun en D r =>
  ⟨_, ps_set hN hi hx pe_v hs hf, he en fun v G' H' c hc x1 r1 => r.nx _ _ _ _ (k c hc) (en.set x1 r1 i) x1.eg⟩
theorem x_set (i : Nat) {x : Str} {e : Expr} {c : Cell} (he : XE X cs e c) (hi : X.N[i]? = some x) (hx : Loc X.env.scope x) (hN : X.N.Nodup) (k : P.nx (cs.set i c)) (hs : swapsWith e (some (.Name x pos')) pos.line X.env = pure false := by rfl)
    (hf : X.fn x = true ∨ X.env.scope.names.lookup x = some .local := by first | exact .inl rfl | exact .inr rfl) : XS X cs (.Assign [.Name x pos'] e pos) P := x_setP i he.xep hi hx hN (fun c' e => by subst e; exact k) hs hf
theorem x_retP {e : Expr} {R : Cell → Prop} (he : XEP X cs e R) (k : ∀ c, R c → P.rt c) : XS X cs (.Return (some e) pos) P := .mk fun en D r =>
  ⟨_, ps_ret pe_v, he en fun v G' H' c hc x1 r1 => r.rt v G' H' c (k c hc) (en.ext.trans x1) x1.eg (r1.base en.ext.eh)⟩
theorem x_ret {e : Expr} {c : Cell} (he : XE X cs e c) (k : P.rt c) : XS X cs (.Return (some e) pos) P := x_retP he.xep (fun c' e => by subst e; exact k)
/-- a name that holds what is the def's own -/
theorem x_retN (i : Nat) {x : Str} {c : Cell} (hc : cs[i]? = some c) (hu : c ≠ .un) (hN : X.N[i]? = some x) (hv : Vis X.env.scope x) (k : P.rt c) (hd : (x == ("__debug__" : Str)) = false := by decide) (hcd : (x == ("__classdict__" : Str)) = false := by decide) :
    XS X cs (.Return (some (.Name x p)) pos) P := .mk fun en D r => ⟨_, ps_ret (pe_var hN hv hd hcd), by
  obtain ⟨v, h1, h2⟩ := en.ok i c hc hu
  exact ⟨v, h1, r.rt v _ _ c k en.ext (Evl.Ex.refl _) h2⟩⟩
theorem x_retNone (k : P.rt (.dat .none)) : XS X cs (.Return none pos) P := .mk fun en D r => ⟨_, ps_retN, r.rt .non _ _ _ k en.ext (Evl.Ex.refl _) .non⟩
theorem x_if {t : Expr} {a b : List Stmt} {k : Bool} (h : XT X (cs.map Cell.fr) t k) (h1 : k = true → XSs X cs a P) (h2 : k = false → XSs X cs b P) : XS X cs (.If t a b pos) P := .mk fun en D r =>
  ⟨_, ps_if pt_v pss_v pss_v, h.frz en fun H' e => by
    have en' := en.step (Ext.heap en.gh e)
    cases k with
    | true => exact h1 rfl en' r
    | false => exact h2 rfl en' r⟩
theorem x_pass (h : P.nx cs) : XS X cs (.Pass pos) P := .mk fun en D r => ⟨_, ps_pass, r.nx _ _ _ _ h en (Evl.Ex.refl _)⟩
theorem x_break (h : P.bk cs) : XS X cs (.Break pos) P := .mk fun en D r => ⟨_, ps_break, r.bk _ _ _ _ h en (Evl.Ex.refl _)⟩
theorem x_cont (h : P.ct cs) : XS X cs (.Continue pos) P := .mk fun en D r => ⟨_, ps_continue, r.ct _ _ _ _ h en (Evl.Ex.refl _)⟩
/-- an expression whose value is dropped -/
theorem x_exprP {e : Expr} {R : Cell → Prop} (he : XEP X cs e R) (k : (∃ c, R c) → P.nx cs) (hs : swapsWith e none pos.line X.env = pure false := by rfl) : XS X cs (.Expr e pos) P := .mk fun en D r =>
  ⟨_, ps_expr pe_v hs, he en fun v G' H' c hc x1 r1 => r.nx _ _ _ _ (k ⟨c, hc⟩) (en.step x1) x1.eg⟩
/-- xs.append(e), xs one's own -/
theorem x_app (i : Nat) {x : Str} {e : Expr} {ds : List PyData} {d : PyData} {ap : Pos} (hc : cs[i]? = some (.own ds)) (he : XE X cs e (.dat d)) (hl : ds.length < 100000) (hN : X.N[i]? = some x) (hv : Vis X.env.scope x) (k : P.nx (cs.set i (.own (ds ++ [d]))))
    (hd : (x == ("__debug__" : Str)) = false := by decide) (hcd : (x == ("__classdict__" : Str)) = false := by decide) (hbase : attributeBase (.Name x p) "append" X.env (eval (.Name x p) X.env) = eval (.Name x p) X.env := by rfl)
    (hfew : ((backTo pos' (starEach [e] X.env)).all (fun x => !x.1) && (backToKw pos' (keywordEach [] X.env)).all (fun x => x.1.isSome) && decide (([e] : List Expr).length + ([] : List Keyword).length + (if ([] : List Keyword).isEmpty then 0 else 1) < 30)) = true := by rfl)
    (hline : (ap.endLine == pos'.line) = true := by rfl) (hst : starEach [e] X.env = (false, eval e X.env) :: starEach [] X.env := by rfl) (hplain : (backTo pos' (starEach [] X.env)).any (·.1) = false := by rfl)
    (hs : swapsWith (.Call (.Attribute (.Name x p) "append" ap) [e] [] pos') none pos.line X.env = pure false := by rfl) :
    XS X cs (.Expr (.Call (.Attribute (.Name x p) "append" ap) [e] [] pos') pos) P := .mk fun en D r =>
  ⟨_, ps_expr (pe_bm PySem.F.plainAttrs_list PySem.F.slot_list_append PySem.F.type_list_append mt_append (pe_var hN hv hd hcd) (pa_cons pe_v pa_nil hst) hbase hfew hline hst hplain) hs, by
    obtain ⟨v, h1, q, ts, rfl, g0, g1, g2, g3⟩ := en.ok i _ hc (fun z => by cases z)
    refine ⟨_, h1, .inl ⟨rfl, _, SqL.of g2⟩, he en fun u G' H' x1 r1 => ⟨q, ts, u, rfl, rfl, x1.eh _ _ g2, by rw [dpa_len g3]; exact Evl.sz_lt hl, ?_⟩⟩
    exact r.nx _ _ _ _ k ((en.step x1).mutL hc h1 (dpa_append (dpa_mono x1.eg _ _ g3) (dpa_one r1))) x1.eg⟩
/-! targets -/
theorem xg_name (i : Nat) {x : Str} {d : PyData} {R : List Cell → Prop} (hi : X.N[i]? = some x) (hx : Loc X.env.scope x) (hN : X.N.Nodup) (k : R (cs.set i (.dat d))) (hf : X.fn x = true ∨ X.env.scope.names.lookup x = some .local := by first | exact .inl rfl | exact .inr rfl) :
    XG X cs (.Name x pos) d R := .mk fun en v r Q q => ⟨_, pg_name hN hi hx hf, q _ _ _ _ k (en.set (Ext.refl en.gh) (show ROk X.K _ _ _ v (.dat d) from r) i) (Evl.Ex.refl _)⟩
theorem xgs_nil {R : List Cell → Prop} (k : R cs) : XGs X cs [] [] R := .mk fun en v r Q q => ⟨_, pgs_nil, by cases r; exact rfl, q _ _ _ _ k en (Evl.Ex.refl _)⟩
theorem xgs_cons {e : Expr} {es : List Expr} {d : PyData} {ds : List PyData} {R : List Cell → Prop} (h : XG X cs e d (fun cs' => XGs X cs' es ds R)) (hs : (assignEach (e :: es) X.env).map (·.2) = assign e X.env :: (assignEach es X.env).map (·.2) := by rfl) : XGs X cs (e :: es) (d :: ds) R := .mk fun en vs r Q q => ⟨_, pgs_cons pg_v pgs_v hs, by
  cases r with
  | cons r1 r2 => exact ⟨_, _, rfl, h en r1 fun G' H' σ' cs' a b c => a b (dpa_mono c _ _ r2) fun G2 H2 σ2 cs2 a2 b2 c2 => q _ _ _ _ a2 b2 (c.trans c2)⟩⟩
theorem xg_tup {es : List Expr} {ds : List PyData} {n : Nat} {R : List Cell → Prop} (hc : X.calm = true) (h : XGs X cs es ds R) (hst : (assignEach es X.env).findIdx? (·.1) = none := by rfl) (hn : ds.length = (assignEach es X.env).length := by rfl) : XG X cs (.Tuple es n pos) (.tuple ds) R := .mk fun en v r Q q => ⟨_, pg_tup hc pgs_v rfl hst, by
  cases r with
  | tup hs ha => exact ⟨_, _, rfl, SqT.of (en.gh _ _ hs), (dpa_len ha).trans hn, h en ha q⟩⟩
/-- a, b, .. = e -/
theorem x_asg {tg e : Expr} {d : PyData} (he : XE X cs e (.dat d)) (hg : XG X cs tg d P.nx) (hs : swapsWithSole [tg] e pos.line X.env = pure false := by rfl) (hw : swappedStores [tg] e X.env = pure none := by rfl) (h1 : (assignEach [tg] X.env).map (·.2) = [assign tg X.env] := by rfl) : XS X cs (.Assign [tg] e pos) P := .mk fun en D r =>
  ⟨_, ps_asg pe_v pg_v hs hw h1, he en fun v G' H' x1 r1 => hg (en.step x1) r1 fun G2 H2 σ2 cs2 a b c => r.nx _ _ _ _ a b (x1.eg.trans c)⟩
theorem x_asgP {tg e : Expr} {R : Cell → Prop} (he : XEP X cs e R) (hg : ∀ c, R c → ∃ d, c = .dat d ∧ XG X cs tg d P.nx) (hs : swapsWithSole [tg] e pos.line X.env = pure false := by rfl) (hw : swappedStores [tg] e X.env = pure none := by rfl) (h1 : (assignEach [tg] X.env).map (·.2) = [assign tg X.env] := by rfl) : XS X cs (.Assign [tg] e pos) P := .mk fun en D r =>
  ⟨_, ps_asg pe_v pg_v hs hw h1, he en fun v G' H' c hc x1 r1 => by
    obtain ⟨d, rfl, hg⟩ := hg c hc
    exact hg (en.step x1) r1 fun G2 H2 σ2 cs2 a b c => r.nx _ _ _ _ a b (x1.eg.trans c)⟩
/-! what is walked -/
theorem xi_list {tg it : Expr} {ds : List PyData} (h : XE X cs it (.dat (.list ds))) : XI X cs tg it ds := .mk fun en R q => ⟨_, pi_list pe_v, h en fun v G' H' x1 r1 => by
  cases r1 with
  | @lst a xs _ hs ha =>
    refine ⟨a, rfl, ⟨xs, SqL.of (x1.gh _ _ hs)⟩, q _ G' H' x1 ⟨YAt xs, (by rw [← dpa_len ha]; exact walk_list.mono (fun H e => SqL.of (e _ _ hs)) (fun _ _ _ _ _ _ y => y)), fun i H x H2 hi e y G1 e1 e2 => ?_⟩⟩
    obtain ⟨rfl, hx⟩ := y
    obtain ⟨d, hd, r⟩ := dpa_getV ha hx
    exact ⟨G1, d, Ext.refl e2, hd, dp_mono e1 _ _ r⟩⟩
theorem xi_own {tg it : Expr} {ds : List PyData} (h : XE X cs it (.own ds)) : XI X cs tg it ds := xi_list (xe_fr h)
theorem xi_tup {tg it : Expr} {ds : List PyData} (h : XE X cs it (.dat (.tuple ds))) : XI X cs tg it ds := .mk fun en R q => ⟨_, pi_tup pe_v, h en fun v G' H' x1 r1 => by
  cases r1 with
  | @tup a xs _ hs ha =>
    refine ⟨a, rfl, ⟨xs, SqT.of (x1.gh _ _ hs)⟩, q _ G' H' x1 ⟨YAt xs, (by rw [← dpa_len ha]; exact walk_tup.mono (fun H e => SqT.of (e _ _ hs)) (fun _ _ _ _ _ _ y => y)), fun i H x H2 hi e y G1 e1 e2 => ?_⟩⟩
    obtain ⟨rfl, hx⟩ := y
    obtain ⟨d, hd, r⟩ := dpa_getV ha hx
    exact ⟨G1, d, Ext.refl e2, hd, dp_mono e1 _ _ r⟩⟩
def rangeD (lo : Int) (n : Nat) : List PyData := (List.range n).map fun i => .int (lo + (i : Nat))
theorem rangeD_len (lo : Int) (n : Nat) : (rangeD lo n).length = n := by simp [rangeD]
theorem rangeD_get {lo : Int} {n i : Nat} (h : i < n) : (rangeD lo n)[i]? = some (.int (lo + (i : Nat))) := by simp [rangeD, h]
theorem rangeD_inv {lo : Int} {n i : Nat} {d : PyData} (h : (rangeD lo n)[i]? = some d) : i < n ∧ d = .int (lo + (i : Nat)) := by
  have hi : i < n := by
    have := (List.getElem?_eq_some_iff.mp h).1
    rwa [rangeD_len] at this
  rw [rangeD_get hi] at h
  exact ⟨hi, (Option.some.inj h).symm⟩
theorem walk_rng {G : Hp} {lo : Int} {n : Nat} : WalkD G (Itr lo n) (rangeD lo n) := ⟨YFn fun i => .int (lo + i), by rw [rangeD_len]; exact walk_range.mono (fun _ _ => trivial) (fun _ _ _ _ _ _ y => y), fun i H x H2 hi e y G1 e1 e2 => by
  obtain ⟨rfl, rfl⟩ := y
  rw [rangeD_len] at hi
  exact ⟨G1, _, Ext.refl e2, rangeD_get hi, .int _⟩⟩
theorem xi_range1 {tg a : Expr} {n : Int} (h : XE X cs a (.dat (.int n))) (hm : X.mg "range" = none) (hb : -(2 ^ 62) ≤ n ∧ n < 2 ^ 62) (hg : Gl X "range" := by rfl) (hs : starEach [a] X.env = [(false, eval a X.env)] := by rfl) : XI X cs tg (.Call (.Name "range" p) [a] [] pos) (rangeD 0 n.toNat) := .mk fun en R q =>
  ⟨_, pi_range1 hg hm (pa_cons pe_v pa_nil hs) hs, h en fun v G' H' x1 r1 => by
    cases r1
    exact ⟨n, rfl, hb.1, hb.2, q _ G' H' x1 walk_rng⟩⟩
theorem xi_range2 {tg a b : Expr} {m n : Int} (ha : XE X cs a (.dat (.int m))) (h : XE X cs b (.dat (.int n))) (hm : X.mg "range" = none) (hb : -(2 ^ 62) ≤ m ∧ m < 2 ^ 62 ∧ -(2 ^ 62) ≤ n ∧ n < 2 ^ 62) (hg : Gl X "range" := by rfl)
    (hs : starEach [a, b] X.env = [(false, eval a X.env), (false, eval b X.env)] := by rfl) (hs2 : starEach [b] X.env = [(false, eval b X.env)] := by rfl) : XI X cs tg (.Call (.Name "range" p) [a, b] [] pos) (rangeD m (n - m).toNat) := .mk fun en R q =>
  ⟨_, pi_range2 hg hm (pa_cons pe_v (pa_cons pe_v pa_nil hs2) (by rw [hs, hs2])) hs hs2, ha en fun v G' H' x1 r1 => h (en.step x1) fun u G2 H2 x2 r2 => by
    cases r1
    cases r2
    exact ⟨m, n, rfl, hb, q _ G2 H2 (x1.trans x2) walk_rng⟩⟩
def signsD (z : Str) : List PyData := z.cps.toList.map fun c => .str ⟨#[c]⟩
theorem xi_str {tg it : Expr} {z : Str} (h : XE X cs it (.dat (.str z))) : XI X cs tg it (signsD z) := .mk fun en R q => ⟨_, pi_str pe_v, h en fun v G' H' x1 r1 => by
  cases r1
  refine ⟨z, rfl, q _ G' H' x1 ⟨_, (by rw [show (signsD z).length = z.cps.size by simp [signsD]]; exact walk_str.mono (fun _ _ => trivial) (fun _ _ _ _ _ _ y => y)), fun i H x H2 hi e y G1 e1 e2 => ?_⟩⟩
  obtain ⟨rfl, c, hc, rfl⟩ := y
  exact ⟨G1, _, Ext.refl e2, by simp [signsD, hc], .str _⟩⟩
def enumD (ds : List PyData) : List PyData := (List.range ds.length).map fun i => .tuple [.int (i : Nat), ds.getD i .none]
theorem enumD_len (ds : List PyData) : (enumD ds).length = ds.length := by simp [enumD]
theorem enumD_get {ds : List PyData} {i : Nat} {d : PyData} (h : ds[i]? = some d) : (enumD ds)[i]? = some (.tuple [.int (i : Nat), d]) := by
  have hi := (List.getElem?_eq_some_iff.mp h).1
  have e : ds[i] = d := by
    rw [List.getElem?_eq_getElem hi] at h
    exact Option.some.inj h
  simp [enumD, hi, List.getD, e]
theorem enumD_inv {ds : List PyData} {i : Nat} {d : PyData} (h : (enumD ds)[i]? = some d) : ∃ e, ds[i]? = some e ∧ d = .tuple [.int (i : Nat), e] := by
  have hi : i < ds.length := by
    have := (List.getElem?_eq_some_iff.mp h).1
    rwa [enumD_len] at this
  have e := List.getElem?_eq_getElem hi
  rw [enumD_get e] at h
  exact ⟨_, e, (Option.some.inj h).symm⟩
theorem xi_enum {a : Expr} {tpos : Pos} {elts : List Expr} {kk : Nat} {ds : List PyData} (h : XE X cs a (.dat (.list ds))) (hm : X.mg "enumerate" = none) (hg : Gl X "enumerate" := by rfl) (hs : starEach [a] X.env = [(false, eval a X.env)] := by rfl) :
    XI X cs (.Tuple elts kk tpos) (.Call (.Name "enumerate" p) [a] [] pos) (enumD ds) := .mk fun en R q =>
  ⟨_, pi_enum hg hm (pa_cons pe_v pa_nil hs) hs, h en fun v G' H' x1 r1 => by
    cases r1 with
    | @lst a xs _ hs ha =>
      refine ⟨a, xs, rfl, SqL.of (x1.gh _ _ hs), q _ G' H' x1 ⟨_, (by rw [enumD_len, ← dpa_len ha]; exact walk_enum.mono (fun H e => SqL.of (e _ _ hs)) (fun _ _ _ _ _ _ y => y)), fun i H x H2 hi e y G1 e1 e2 => ?_⟩⟩
      obtain ⟨T, k, w, rfl, nT, rfl, hk, hw⟩ := y
      cases hk
      obtain ⟨d, hd, r⟩ := dpa_getV ha hw
      have eT : Ex G1 (upd G1 T (.tup [.int (i : Nat), w])) := Evl.Ex.new (Evl.fresh_back e2 nT)
      exact ⟨_, _, Ext.new e2 nT, enumD_get hd, .tup upd_same (.cons (.int _) (.cons (dp_mono (e1.trans eT) _ _ r) .nil))⟩⟩
/-! loops -/
theorem x_for {tg it : Expr} {body : List Stmt} {ds : List PyData} (I : Nat → List Cell → Prop) (hp : PassesOwn (model X.prog X.w) X.A X.env X.xe) (hc : X.calm = true) (hi : XI X cs tg it ds) (h0 : I 0 cs)
    (hb : ∀ i d cs', ds[i]? = some d → I i cs' → XG X cs' tg d fun cs2 => XSs X cs2 body { nx := I (i + 1), rt := P.rt, bk := P.nx, ct := I (i + 1), ex := P.ex, E := P.E }) (hd : ∀ cs', I ds.length cs' → P.nx cs') (hs : ∀ x, foldedSetIterable it X.env x = pure x := by intro _; rfl) : XS X cs (.For tg it body [] pos) P := .mk fun {G0 H0 G H σ} en D r =>
  ⟨_, ps_for hp hc pi_v pg_v pss_v hs, hi en fun J G1 H1 x1 ⟨Y, w, y⟩ => for_it w (fun i σ' H' => ∃ G' cs', I i cs' ∧ Env X.K G0 H0 G' H' σ' cs' ∧ Ex G1 G') ⟨G1, cs, h0, en.step x1, Evl.Ex.refl _⟩
    (fun i σ' H' _ ⟨G', cs', _, e, k⟩ => k.trans e.gh)
    (fun i x σ' H' H2 hi' ⟨G', cs', p, e, k⟩ yy => by
      obtain ⟨G2, d, x2, hd', r2⟩ := y i H' x H2 hi' (k.trans e.gh) yy G' k e.gh
      refine hb i d cs' hd' p (e.step x2) r2 fun G3 H3 σ3 cs3 a b c => a b ⟨fun G4 H4 σ4 cs4 a4 b4 c4 => ?_, fun v4 G4 H4 c' a4 b4 c4 => r.rt v4 G4 H4 c' a4 b4 ((((x1.eg.trans k).trans x2.eg).trans c).trans c4), fun G4 H4 σ4 cs4 a4 b4 c4 => ?_, fun G4 H4 σ4 cs4 a4 b4 c4 => ?_, fun cls σ4 G4 H4 a4 b4 c4 => r.ex cls σ4 G4 H4 a4 b4 ((((x1.eg.trans k).trans x2.eg).trans c).trans c4)⟩
      · exact ⟨G4, cs4, a4, b4, ((k.trans x2.eg).trans c).trans c4⟩
      · exact r.nx _ _ _ _ a4 b4 ((((x1.eg.trans k).trans x2.eg).trans c).trans c4)
      · exact ⟨G4, cs4, a4, b4, ((k.trans x2.eg).trans c).trans c4⟩)
    (fun σ' H' ⟨G', cs', p, e, k⟩ => r.nx _ _ _ _ (hd cs' p) e (x1.eg.trans k))⟩
theorem x_while {t : Expr} {body : List Stmt} (I : Nat → List Cell → Prop) (m0 : Nat) (hp : PassesOwn (model X.prog X.w) X.A X.env X.xe) (h0 : I m0 cs)
    (hb : ∀ m cs', I m cs' → ∃ b, XT X (cs'.map Cell.fr) t b ∧ (b = true → XSs X cs' body { nx := fun c => ∃ m', m' < m ∧ I m' c, rt := P.rt, bk := P.nx, ct := fun c => ∃ m', m' < m ∧ I m' c, ex := P.ex, E := P.E }) ∧ (b = false → P.nx cs')) : XS X cs (.While t body [] pos) P := .mk fun {G0 H0 G H σ} en D r =>
  ⟨_, ps_while hp pt_v pss_v, (fun m σ' H' => ∃ G' cs', I m cs' ∧ Env X.K G0 H0 G' H' σ' cs' ∧ Ex G G'), ⟨m0, G, cs, h0, en, Evl.Ex.refl _⟩, fun m σ' H' ⟨G', cs', p, e, k⟩ => by
    obtain ⟨b, hb, h1, h2⟩ := hb m cs' p
    refine hb.frz e fun H2 e2 => ?_
    have e' := e.step (Ext.heap e.gh e2)
    cases b with
    | true =>
      refine ⟨fun σ3 H3 => ∃ m', m' < m ∧ ∃ G' cs', I m' cs' ∧ Env X.K G0 H0 G' H3 σ3 cs' ∧ Ex G G', fun σ3 H3 h => h, h1 rfl e' ⟨fun G4 H4 σ4 cs4 a4 b4 c4 => ?_, fun v4 G4 H4 c' a4 b4 c4 => r.rt v4 G4 H4 c' a4 b4 (k.trans c4), fun G4 H4 σ4 cs4 a4 b4 c4 => ?_, fun G4 H4 σ4 cs4 a4 b4 c4 => ?_, fun cls σ4 G4 H4 a4 b4 c4 => r.ex cls σ4 G4 H4 a4 b4 (k.trans c4)⟩⟩
      · obtain ⟨m', hm, a⟩ := a4
        exact ⟨m', hm, G4, cs4, a, b4, k.trans c4⟩
      · exact r.nx _ _ _ _ a4 b4 (k.trans c4)
      · obtain ⟨m', hm, a⟩ := a4
        exact ⟨m', hm, G4, cs4, a, b4, k.trans c4⟩
    | false => exact r.nx _ _ _ _ (h2 rfl) e' k⟩
end
end Fw

set_option maxRecDepth 100000
set_option maxHeartbeats 4000000
namespace Fw
open PySem PySem.Spec PyProof.Rows L2
open Evl (Ex)

section
variable {X : Cx}
/-! ### operations by data -/
theorem bd_of {op : Operator} {r : R2} (hr : OpR X (binaryOp op) r) {d e z : PyData} (h : ∀ {G H : Hp} {x y : V}, Ex G H → Dt G x d → Dt G y e → ∀ {Q : VK}, (∀ v, Dt G v z → Q v H) → r x y H Q) : BinD X op d e (.dat z) :=
  ⟨r, hr, fun gh hx hy Q q => h gh hx hy fun v hv => q v _ _ (Ext.refl gh) hv⟩
theorem bd_add {i j : Int} : BinD X .Add (.int i) (.int j) (.dat (.int (i + j))) := bd_of op_add fun gh hx hy Q q => by
  cases hx; cases hy
  exact ⟨i, j, rfl, rfl, q _ (.int _)⟩
theorem bd_sub {i j : Int} : BinD X .Sub (.int i) (.int j) (.dat (.int (i - j))) := bd_of op_sub fun gh hx hy Q q => by
  cases hx; cases hy
  exact ⟨i, j, rfl, rfl, q _ (.int _)⟩
theorem bd_mul {i j : Int} (h : CMul i j) : BinD X .Mult (.int i) (.int j) (.dat (.int (i * j))) := bd_of op_mul fun gh hx hy Q q => by
  cases hx; cases hy
  exact ⟨i, j, rfl, rfl, h, q _ (.int _)⟩
theorem bd_fdiv {i j : Int} (h : j ≠ 0 ∧ j.natAbs < 1073741824) : BinD X .FloorDiv (.int i) (.int j) (.dat (.int (i.fdiv j))) := bd_of op_fdivN fun gh hx hy Q q => by
  cases hx; cases hy
  exact ⟨i, j, rfl, rfl, h, q _ (.int _)⟩
theorem bd_mod {i j : Int} (h : j ≠ 0) : BinD X .Mod (.int i) (.int j) (.dat (.int (i.fmod j))) := bd_of op_modN fun gh hx hy Q q => by
  cases hx; cases hy
  exact ⟨i, j, rfl, rfl, h, q _ (.int _)⟩
theorem bd_adds {i j : Str} (h : i.length + j.length ≤ sizeLine) : BinD X .Add (.str i) (.str j) (.dat (.str (i ++ j))) := bd_of op_add_str fun gh hx hy Q q => by
  cases hx; cases hy
  exact ⟨i, j, rfl, rfl, h, q _ (.str _)⟩
theorem op_mul_str : OpR X (binaryOp .Mult) (fun x y H Q => ∃ z n, x = .str z ∧ y = .int n ∧ MulOk z n ∧ Q (.str (Txt.mul z n)) H) := by
  intro pins s σ H x y v u Q I rx ry h
  obtain ⟨z, n, rfl, rfl, hm, q⟩ := h
  obtain ⟨t, rfl⟩ := rx
  obtain ⟨t', rfl⟩ := ry
  exact SB.mul hm fun t' k => ⟨.str _, H, I.tok _, ⟨_, rfl⟩, q⟩
theorem bd_muls {i : Str} {j : Int} (h : MulOk i j) : BinD X .Mult (.str i) (.int j) (.dat (.str (Txt.mul i j))) := bd_of op_mul_str fun gh hx hy Q q => by
  cases hx; cases hy
  exact ⟨i, j, rfl, rfl, h, q _ (.str _)⟩
theorem bd_cat {ds es : List PyData} (h : ds.length + es.length ≤ 100000) : BinD X .Add (.list ds) (.list es) (.own (ds ++ es)) := ⟨_, op_cat, fun {G H x y} gh hx hy Q q => by
  cases hx with
  | @lst a xs _ hs ha =>
    cases hy with
    | @lst b ys _ hs' hb =>
      refine ⟨a, b, xs, ys, rfl, rfl, gh _ _ hs, gh _ _ hs', by rw [dpa_len ha, dpa_len hb]; exact Evl.sz_of h, fun p hp => q _ G _ (Ext.heap gh (Evl.Ex.new hp)) ⟨p, _, rfl, hp, Evl.fresh_back gh hp, upd_same, dpa_append ha hb⟩⟩⟩
theorem ud_neg {i : Int} : UnD X .USub (.int i) (.dat (.int (-i))) := ⟨_, un_neg, fun gh hx Q q => by
  cases hx
  exact ⟨i, rfl, q _ _ _ (Ext.refl gh) (.int _)⟩⟩
/-! comparisons -/
theorem cd_lt {i j : Int} : CmpD X .Lt (.int i) (.int j) (decide (i < j)) := ⟨_, op_lt, fun gh hx hy Q q => by cases hx; cases hy; exact ⟨i, j, rfl, rfl, q⟩⟩
theorem cd_le {i j : Int} : CmpD X .LtE (.int i) (.int j) (decide (i ≤ j)) := ⟨_, op_le, fun gh hx hy Q q => by cases hx; cases hy; exact ⟨i, j, rfl, rfl, q⟩⟩
theorem cd_gt {i j : Int} : CmpD X .Gt (.int i) (.int j) (decide (j < i)) := ⟨_, op_gt, fun gh hx hy Q q => by cases hx; cases hy; exact ⟨i, j, rfl, rfl, q⟩⟩
theorem cd_ge {i j : Int} : CmpD X .GtE (.int i) (.int j) (decide (j ≤ i)) := ⟨_, op_ge, fun gh hx hy Q q => by cases hx; cases hy; exact ⟨i, j, rfl, rfl, q⟩⟩
theorem dec_int {i j : Int} : decide (V.int i = V.int j) = decide (i = j) := by
  by_cases h : i = j
  · subst h; simp
  · rw [decide_eq_false h, decide_eq_false (fun e => h (V.int.inj e))]
theorem dec_str {i j : Str} : decide (V.str i = V.str j) = decide (i = j) := by
  by_cases h : i = j
  · subst h; simp
  · rw [decide_eq_false h, decide_eq_false (fun e => h (V.str.inj e))]
theorem cd_eqi {i j : Int} : CmpD X .Eq (.int i) (.int j) (decide (i = j)) := ⟨_, op_eq, fun gh hx hy Q q => by cases hx; cases hy; exact ⟨rfl, by rw [dec_int]; exact q⟩⟩
theorem cd_nei {i j : Int} : CmpD X .NotEq (.int i) (.int j) (!decide (i = j)) := ⟨_, op_ne, fun gh hx hy Q q => by cases hx; cases hy; exact ⟨rfl, by rw [dec_int]; exact q⟩⟩
theorem cd_eqs {i j : Str} : CmpD X .Eq (.str i) (.str j) (decide (i = j)) := ⟨_, op_eq, fun gh hx hy Q q => by cases hx; cases hy; exact ⟨rfl, by rw [dec_str]; exact q⟩⟩
theorem cd_nes {i j : Str} : CmpD X .NotEq (.str i) (.str j) (!decide (i = j)) := ⟨_, op_ne, fun gh hx hy Q q => by cases hx; cases hy; exact ⟨rfl, by rw [dec_str]; exact q⟩⟩
theorem cd_eqD {d e : PyData} (hu : X.A.units + 64 < cLine) (hd : SeqAt.shaped d = true) (he : SeqAt.shaped e = true) : CmpD X .Eq d e (PyData.eqv d e) := ⟨_, op_eqD hu, fun gh hx hy Q q => ⟨d, e, dt_dp _ _ (dp_mono gh _ _ hx), dt_dp _ _ (dp_mono gh _ _ hy), hd, he, q⟩⟩
theorem cd_neD {d e : PyData} (hu : X.A.units + 64 < cLine) (hd : SeqAt.shaped d = true) (he : SeqAt.shaped e = true) : CmpD X .NotEq d e (!PyData.eqv d e) := ⟨_, op_neD hu, fun gh hx hy Q q => ⟨d, e, dt_dp _ _ (dp_mono gh _ _ hx), dt_dp _ _ (dp_mono gh _ _ hy), hd, he, q⟩⟩
theorem cd_inD {d : PyData} {ds : List PyData} (hu : X.A.units + 65 < cLine) (hd : SeqAt.shaped d = true) (he : SeqAt.shaped (.list ds) = true) : CmpD X .In d (.list ds) (ds.any fun z => PyData.eqv z d) := ⟨_, op_inD hu, fun gh hx hy Q q => ⟨d, ds, dt_dp _ _ (dp_mono gh _ _ hx), dt_dp _ _ (dp_mono gh _ _ hy), hd, he, q⟩⟩
theorem cd_notInD {d : PyData} {ds : List PyData} (hu : X.A.units + 65 < cLine) (hd : SeqAt.shaped d = true) (he : SeqAt.shaped (.list ds) = true) : CmpD X .NotIn d (.list ds) (!ds.any fun z => PyData.eqv z d) := ⟨_, op_notInD hu, fun gh hx hy Q q => ⟨d, ds, dt_dp _ _ (dp_mono gh _ _ hx), dt_dp _ _ (dp_mono gh _ _ hy), hd, he, q⟩⟩
theorem cd_inSign {c : Nat} {z : Str} : CmpD X .In (.str ⟨#[c]⟩) (.str z) (decide (c ∈ z.cps.toList)) := ⟨_, op_in_sign, fun gh hx hy Q q => by cases hx; cases hy; exact ⟨c, z, rfl, rfl, q⟩⟩
/-! items -/
theorem id_l {ds : List PyData} {i : Int} {d : PyData} (h : atI ds i = some d) : IxD X (.list ds) (.int i) (.dat d) := ⟨_, ix_list, fun gh hx hy Q q => by
  cases hy
  cases hx with
  | @lst a xs _ hs ha =>
    obtain ⟨j, h1, h2⟩ : ∃ j, ixN ds.length i = some j ∧ ds[j]? = some d := by
      unfold atI at h
      cases q : ixN ds.length i with
      | none => rw [q] at h; cases h
      | some j => rw [q] at h; exact ⟨j, rfl, h⟩
    obtain ⟨v, h3, h4⟩ := dpa_get ha h2
    exact ⟨a, xs, i, v, rfl, rfl, SqL.of (gh _ _ hs), by unfold atI; rw [dpa_len ha, h1]; exact h3, q v _ _ (Ext.refl gh) h4⟩⟩
theorem id_t {ds : List PyData} {i : Int} {d : PyData} (h : atI ds i = some d) : IxD X (.tuple ds) (.int i) (.dat d) := ⟨_, ix_tup, fun gh hx hy Q q => by
  cases hy
  cases hx with
  | @tup a xs _ hs ha =>
    obtain ⟨j, h1, h2⟩ : ∃ j, ixN ds.length i = some j ∧ ds[j]? = some d := by
      unfold atI at h
      cases q : ixN ds.length i with
      | none => rw [q] at h; cases h
      | some j => rw [q] at h; exact ⟨j, rfl, h⟩
    obtain ⟨v, h3, h4⟩ := dpa_get ha h2
    exact ⟨a, xs, i, v, rfl, rfl, SqT.of (gh _ _ hs), by unfold atI; rw [dpa_len ha, h1]; exact h3, q v _ _ (Ext.refl gh) h4⟩⟩
theorem id_s {z : Str} {i : Int} {c : Nat} (hl : z.length ≤ sizeLine) (h : atI z.cps.toList i = some c) : IxD X (.str z) (.int i) (.dat (.str ⟨#[c]⟩)) := ⟨_, ix_str, fun gh hx hy Q q => by
  cases hy
  cases hx
  exact ⟨z, i, c, rfl, rfl, hl, h, q _ _ _ (Ext.refl gh) (.str _)⟩⟩
/-! built-ins -/
theorem cl_lenL {ds : List PyData} : CallD X (.builtin "len") [.list ds] (.dat (.int ds.length)) := ⟨_, call_len_seq, fun gh h Q q => by
  cases h with
  | cons h h' =>
    cases h'
    cases h with
    | @lst a xs _ hs ha =>
      refine ⟨a, xs, rfl, .inl (SqL.of (gh _ _ hs)), ?_⟩
      rw [dpa_len ha]
      exact q _ _ _ (Ext.refl gh) (.int _)⟩
theorem cl_lenT {ds : List PyData} : CallD X (.builtin "len") [.tuple ds] (.dat (.int ds.length)) := ⟨_, call_len_seq, fun gh h Q q => by
  cases h with
  | cons h h' =>
    cases h'
    cases h with
    | @tup a xs _ hs ha =>
      refine ⟨a, xs, rfl, .inr (SqT.of (gh _ _ hs)), ?_⟩
      rw [dpa_len ha]
      exact q _ _ _ (Ext.refl gh) (.int _)⟩
theorem cl_lenS {z : Str} (hl : z.length ≤ sizeLine) : CallD X (.builtin "len") [.str z] (.dat (.int z.length)) := ⟨_, call_len_str, fun gh h Q q => by
  cases h with
  | cons h h' =>
    cases h'
    cases h
    exact ⟨z, rfl, hl, q _ _ _ (Ext.refl gh) (.int _)⟩⟩
theorem cl_list {ds : List PyData} : CallD X (.type "list") [.list ds] (.own ds) := ⟨_, call_list_of, fun {G H vs} gh h Q q => by
  cases h with
  | cons h h' =>
    cases h'
    cases h with
    | @lst a xs _ hs ha =>
      exact ⟨a, xs, rfl, .inl (SqL.of (gh _ _ hs)), fun p hp => q _ G _ (Ext.heap gh (Evl.Ex.new hp)) ⟨p, _, rfl, hp, Evl.fresh_back gh hp, upd_same, ha⟩⟩⟩
theorem cl_max2 (hc : X.calm = true) {i j : Int} : CallD X (.builtin "max") [.int i, .int j] (.dat (.int (if j > i then j else i))) := ⟨_, call_max2 hc, fun gh h Q q => by
  cases h with
  | cons h h' =>
    cases h' with
    | cons h' h'' =>
      cases h
      cases h'
      cases h''
      exact ⟨i, j, rfl, q _ _ _ (Ext.refl gh) (.int _)⟩⟩
theorem cl_all (hc : X.calm = true) {bs : List Bool} : CallD X (.builtin "all") [.list (bs.map .bool)] (.dat (.bool (bs.all id))) := ⟨_, cr_all hc, fun gh h Q q => by
  cases h with
  | cons h h' =>
    cases h'
    cases h with
    | @lst a xs _ hs ha =>
      have e := dpa_bls' ha
      subst e
      exact ⟨a, bs, rfl, SqL.of (gh _ _ hs), q _ _ _ (Ext.refl gh) (.bl _)⟩⟩
def tyD : PyData → String
  | .none => "NoneType" | .bool _ => "bool" | .int _ => "int" | .str _ => "str" | .list _ => "list" | .tuple _ => "tuple" | .dict _ => "dict"
/-- isinstance(x, T), T a built-in class -/
def isD (d : PyData) (T : String) : Bool := (PySem.W.kitOne [] (.type (tyD d)) (.type T)).getD false
theorem xe_isi {cs : List Cell} {x : Expr} {T : Str} {Tn : String} {d : PyData} {b : Bool} {pos p p' : Pos} (hx : XE X cs x (.dat d)) (hk : ∀ K, PySem.W.kitOne K (.type (tyD d)) (.type Tn) = some b) (hm : X.mg "isinstance" = none) (hmT : X.mg T = none) (hv : bootBuiltins T = some (.type Tn))
    (hg : Gl X "isinstance" := by rfl) (hgT : Gl X T := by rfl) (hn : T ≠ "__name__" := by decide) (hd : (T == ("__debug__" : Str)) = false := by decide)
    (he : starEach [x, .Name T p'] X.env = (false, eval x X.env) :: starEach [.Name T p'] X.env := by rfl) (he2 : starEach [.Name T p'] X.env = (false, eval (.Name T p') X.env) :: starEach [] X.env := by rfl) (hpl : (backTo pos (starEach [.Name T p'] X.env)).any (·.1) = false := by rfl) :
    XE X cs (.Call (.Name "isinstance" p) [x, .Name T p'] [] pos) (.dat (.bool b)) := .mk fun en Q q =>
  ⟨_, pe_callB call_isi hg hm (by decide +kernel) (pa_cons pe_v (pa_cons (pe_bltn (v := .ty Tn) hgT hmT hv rfl hn hd) pa_nil he2) he) (by decide) (by decide) he hpl, hx en fun v G' H' x1 r => by
    refine ⟨v, .ty Tn, .type (tyD d), .type Tn, b, rfl, .ty Tn, ?_, hk _, q _ _ _ x1 (.bl b)⟩
    cases r with
    | non => exact .base .non
    | bl b => exact .base (.bl b)
    | int i => exact .base (.int i)
    | str x => exact .base (.str x)
    | lst hs ha => exact .base (.lst (x1.gh _ _ hs))
    | tup hs ha => exact .base (.tup (x1.gh _ _ hs))⟩
end
/-! ### chains of comparisons -/
section
variable {X : Cx} {cs : List Cell} {pos : Pos}
theorem xt_chainI {a b c : Expr} {op op' : CmpOp} {f g : Int → Int → Bool} {i j l : Int} (ho : OpR X (compareOp op) (rI0 fun i j => V.bl (f i j))) (ho' : OpR X (compareOp op') (rI0 fun i j => V.bl (g i j)))
    (ha : XE X cs a (.dat (.int i))) (hb : XE X cs b (.dat (.int j))) (hc : f i j = true → XE X cs c (.dat (.int l))) (hm : lastMarks [op, op'] [b, c] = false := by with_unfolding_all rfl) :
    XT X cs (.Compare a [op, op'] [b, c] pos) (f i j && g j l) := .mk fun en Q q => by
  refine ⟨_, pt_chain ho ho' pe_v pe_v pe_v hm, ha en fun x G1 H1 x1 r1 => hb (en.step x1) fun y G2 H2 x2 r2 => ?_⟩
  cases r1
  cases r2
  refine ⟨i, j, rfl, rfl, f i j, rfl, ?_⟩
  cases hf : f i j with
  | true =>
    rw [if_pos rfl]
    refine hc hf ((en.step x1).step x2) fun z G3 H3 x3 r3 => ?_
    cases r3
    have := q H3 ((x1.trans x2).trans x3).eh
    rw [hf] at this
    exact ⟨j, l, rfl, rfl, g j l, rfl, this⟩
  | false =>
    rw [if_neg (by decide)]
    have := q H2 (x1.trans x2).eh
    rw [hf] at this
    exact ⟨false, rfl, this⟩
theorem xe_chainI {a b c : Expr} {op op' : CmpOp} {f g : Int → Int → Bool} {i j l : Int} (ho : OpR X (compareOp op) (rI0 fun i j => V.bl (f i j))) (ho' : OpR X (compareOp op') (rI0 fun i j => V.bl (g i j)))
    (ha : XE X cs a (.dat (.int i))) (hb : XE X cs b (.dat (.int j))) (hc : f i j = true → XE X cs c (.dat (.int l))) (hm : lastMarks [op, op'] [b, c] = false := by with_unfolding_all rfl) :
    XE X cs (.Compare a [op, op'] [b, c] pos) (.dat (.bool (f i j && g j l))) := .mk fun en Q q => by
  refine ⟨_, pe_chain ho ho' pe_v pe_v pe_v hm, ha en fun x G1 H1 x1 r1 => hb (en.step x1) fun y G2 H2 x2 r2 => ?_⟩
  cases r1
  cases r2
  refine ⟨i, j, rfl, rfl, f i j, rfl, ?_⟩
  cases hf : f i j with
  | true =>
    rw [if_pos rfl]
    refine hc hf ((en.step x1).step x2) fun z G3 H3 x3 r3 => ?_
    cases r3
    refine ⟨j, l, rfl, rfl, ?_⟩
    have := q (.bl (g j l)) G3 H3 ((x1.trans x2).trans x3)
    rw [hf] at this
    exact this (.bl _)
  | false =>
    rw [if_neg (by decide)]
    have := q (.bl false) G2 H2 (x1.trans x2)
    rw [hf] at this
    exact this (.bl _)

/-! ### list comprehensions whose target is a name -/
def vTs (X : Cx) (ifs : List Expr) : TT := fun σ H Q => ∃ t, PTs X ifs t ∧ t σ H Q
theorem pts_v {ifs : List Expr} : PTs X ifs (vTs X ifs) := ⟨fun pins s σ H Q I ⟨_, h, q⟩ => h.run pins s σ H Q I q⟩
structure XTs (X : Cx) (cs : List Cell) (ifs : List Expr) (b : Bool) : Prop where
  run : ∀ {G0 H0 G H : Hp} {σ : L2.St}, Env X.K G0 H0 G H σ cs → ∀ {Q : Bool → Hp → Prop}, (∀ H', Ex H H' → Q b H') → vTs X ifs σ H Q
instance {X : Cx} {cs : List Cell} {ifs : List Expr} {b : Bool} : CoeFun (XTs X cs ifs b) (fun _ => ∀ {G0 H0 G H : Hp} {σ : L2.St}, Env X.K G0 H0 G H σ cs → ∀ {Q : Bool → Hp → Prop}, (∀ H', Ex H H' → Q b H') → vTs X ifs σ H Q) := ⟨fun h => h.run⟩
theorem xts_nil : XTs X cs [] true := .mk fun en Q q => ⟨_, pts_nil, q _ (Evl.Ex.refl _)⟩
theorem xts_one {c : Expr} {b : Bool} (h : XT X cs c b) : XTs X cs [c] b := .mk fun en Q q => ⟨_, pts_one pt_v, h en q⟩
/-- the block's contexts -/
structure Bk where
  s : Shared
  H : Hp
  C : Addr
  cl : List (Str × Addr)
  fp : List Addr
abbrev Bk.cx (B : Bk) (X : Cx) (scope : Scope) : Cx := X.blk B.s B.H scope (compEnvC scope B.cl B.C X.env) B.fp
def fE (X : Cx) (scope : Scope) (e : Expr) : TE := fun σ H Q => ∀ B : Bk, vE (B.cx X scope) e σ H Q
def fTs (X : Cx) (scope : Scope) (e : List Expr) : TT := fun σ H Q => ∀ B : Bk, vTs (B.cx X scope) e σ H Q
theorem wipe_set1 {σ : L2.St} {j : Nat} {o : Option V} : wipe ((wipe σ [j]).set j o) [j] = wipe σ [j] := by
  show ((σ.set j none).set j o).set j none = σ.set j none
  rw [List.set_set, List.set_set]
theorem Ext.mut {G H G' H' : Hp} {p : Addr} {o : HO} (x : Ext G H G' H') (h : H p = none) (g : G' p = none) : Ext G H G' (upd H' p o) :=
  ⟨x.eg, Evl.Ex.mut x.eh h, fun a u ha => by
    have : a ≠ p := fun z => by
      subst z
      rw [g] at ha
      cases ha
    rw [upd_ne this]
    exact x.gh a u ha, x.nw⟩
theorem Env.wipe {K : PySem.W.Frag} {G0 H0 G H : Hp} {σ : L2.St} {cs : List Cell} (e : Env K G0 H0 G H σ cs) (j : Nat) : Env K G0 H0 G H (σ.set j none) (cs.set j .un) := by
  have e' := e.un j
  have key : ∀ (i : Nat) c, (cs.set j .un)[i]? = some c → c ≠ .un → (σ.set j none)[i]? = σ[i]? := fun i c hc n => by
    rw [List.getElem?_set] at hc ⊢
    split
    · rename_i hij
      subst hij
      rw [if_pos rfl] at hc
      split at hc
      · cases hc
        exact absurd rfl n
      · cases hc
    · rfl
  refine ⟨e'.ext, fun i c hc n => ?_, fun i k c0 c1 p hne hi hk o0 o1 hs => ?_, by rw [List.length_set, e'.len]⟩
  · obtain ⟨v, h1, h2⟩ := e'.ok i c hc n
    exact ⟨v, by rw [key i c hc n]; exact h1, h2⟩
  · have n0 : c0 ≠ .un := fun z => by
      subst z
      cases o0
    have n1 : c1 ≠ .un := fun z => by
      subst z
      cases o1
    rw [key i c0 hi n0] at hs
    rw [key k c1 hk n1]
    exact e'.ap i k c0 c1 p hne hi hk o0 o1 hs
/-- the reading of a comprehension: acc i is what i turns have made -/
theorem lcD {elt it : Expr} {ifs : List Expr} {scope : Scope} {j : Nat} {ds : List PyData} {tg : Expr} (acc : Nat → List PyData) (h0 : acc 0 = []) (hn : ds.length ≤ 90000)
    (hi : XI X cs tg it ds)
    (hs : ∀ i d, ds[i]? = some d → ∃ b, (∀ B : Bk, XTs (B.cx X scope) (cs.set j (.dat d)) ifs b) ∧ (b = true → ∃ y, (∀ B : Bk, XE (B.cx X scope) (cs.set j (.dat d)) elt (.dat y)) ∧ acc (i + 1) = acc i ++ [y]) ∧ (b = false → acc (i + 1) = acc i))
    {G0 H0 G H : Hp} {σ : L2.St} (en : Env X.K G0 H0 G H σ cs) {Q : VK} (q : ∀ v G' H', Ext G H G' H' → ROk X.K H G' H' v (.own (acc ds.length)) → Q v H') :
    tLc (vI X tg it) (gName j) (fTs X scope ifs) (fE X scope elt) [j] σ H Q := by
  refine hi en fun J G1 H1 x1 ⟨Y, w, y⟩ => fun D hD => ?_
  have hHD : H D = none := Evl.fresh_back x1.eh hD
  have hGD : G1 D = none := Evl.fresh_back x1.gh hD
  refine lc_it w (fun i H' => ∃ G', Ex G1 G' ∧ Ext G H G' H' ∧ G' D = none ∧ (acc i).length ≤ i ∧ ∃ ts, H' D = some (.lst ts) ∧ DtA G' ts (acc i)) ?_ (fun i H' _ ⟨G', e, x, _⟩ => e.trans x.gh) ?_ ?_
  · exact ⟨G1, Evl.Ex.refl _, x1.mut hHD hGD, hGD, by rw [h0]; exact Nat.zero_le _, [], upd_same, by rw [h0]; exact .nil⟩
  · rintro i x H' H2 hi' ⟨G', e, x', gD, hl, ts, hts, ha⟩ yy
    obtain ⟨G2, d, x2, hd, r2⟩ := y i H' x H2 hi' (e.trans x'.gh) yy G' e x'.gh
    refine ⟨wipe_set1, ?_⟩
    have env2 : Env X.K G0 H0 G2 H2 ((wipe σ [j]).set j (some x)) (cs.set j (.dat d)) := by
      have e1 := ((en.step (x'.trans x2)).wipe j).set (Ext.refl x2.gh) (c := .dat d) (v := x) r2 j
      rw [List.set_set (l := cs)] at e1
      exact e1
    obtain ⟨b, hb, h1, h2⟩ := hs i d hd
    intro B
    refine hb B env2 fun H3 e3 => ?_
    have x3 : Ext G H G2 H3 := (x'.trans x2).trans (Ext.heap x2.gh e3)
    have g2D : G2 D = none := x2.apart gD hts
    have h3D : H3 D = some (.lst ts) := e3 _ _ (x2.eh _ _ hts)
    cases b with
    | true =>
      rw [if_pos rfl]
      obtain ⟨z, hz, ea⟩ := h1 rfl
      intro B'
      refine hz B' (env2.step (Ext.heap x2.gh e3)) fun v G4 H4 x4 r4 => ?_
      have g4D : G4 D = none := x4.apart g2D h3D
      refine ⟨ts, x4.eh _ _ h3D, by rw [dpa_len ha]; exact Evl.sz_lt (by omega), G4, (e.trans x2.eg).trans x4.eg, (x3.trans x4).mut hHD g4D, g4D, by rw [ea, List.length_append]; exact Nat.add_le_add hl (Nat.le_refl 1), _, upd_same, ?_⟩
      rw [ea]
      exact dpa_append (dpa_mono (x2.eg.trans x4.eg) _ _ ha) (dpa_one r4)
    | false =>
      rw [if_neg (by decide)]
      refine ⟨G2, e.trans x2.eg, x3, g2D, by rw [h2 rfl]; exact Nat.le_succ_of_le hl, ts, h3D, ?_⟩
      rw [h2 rfl]
      exact dpa_mono x2.eg _ _ ha
  · rintro H' ⟨G', e, x', gD, hl, ts, hts, ha⟩
    exact q _ G' H' x' ⟨D, ts, rfl, hHD, gD, hts, ha⟩
theorem xe_lc {elt it : Expr} {ifs : List Expr} {scope : Scope} {x : Str} {j : Nat} {ds : List PyData} {tpos : Pos} (acc : Nat → List PyData) (hi : XI X cs (.Name x tpos) it ds) (ok : BlkOk X.N X.env.scope scope [(x, j)])
    (hs : ∀ i d, ds[i]? = some d → ∃ b, (∀ B : Bk, XTs (B.cx X scope) (cs.set j (.dat d)) ifs b) ∧ (b = true → ∃ y, (∀ B : Bk, XE (B.cx X scope) (cs.set j (.dat d)) elt (.dat y)) ∧ acc (i + 1) = acc i ++ [y]) ∧ (b = false → acc (i + 1) = acc i))
    (hc : X.calm = true) (hN : X.N.Nodup) (hj : X.N[j]? = some x) (hx : ∀ B : Bk, Loc (B.cx X scope).env.scope x) (h0 : acc 0 = []) (hn : ds.length ≤ 90000)
    (hfn : ∀ B : Bk, (B.cx X scope).fn x = true ∨ (B.cx X scope).env.scope.names.lookup x = some .local) (hfs : ∀ y, foldedSetIterable it X.env y = pure y := by intro _; rfl) :
    XE X cs (.ListComp elt [⟨.Name x tpos, it, ifs, 0⟩] scope pos) (.own (acc ds.length)) := .mk fun en Q q =>
  ⟨_, pe_lc (own := [(x, j)]) (g := gName j) hc hN pi_v ok (fun s H C cl fp => pg_name hN hj (hx ⟨s, H, C, cl, fp⟩) (hfn ⟨s, H, C, cl, fp⟩)) (fun s H C cl fp => ⟨fun pins s' σ H' Q I h => pts_v.run pins s' σ H' Q I (h ⟨s, H, C, cl, fp⟩)⟩)
    (fun s H C cl fp => ⟨fun pins s' σ H' Q I h => pe_v.run pins s' σ H' Q I (h ⟨s, H, C, cl, fp⟩)⟩) hfs, lcD acc h0 hn hi hs en q⟩
/-- y = [e for x in it] -/
theorem x_setLc (i : Nat) {y : Str} {elt it : Expr} {ifs : List Expr} {scope : Scope} {x : Str} {j : Nat} {ds : List PyData} {tpos py spos : Pos} {P : Po} (acc : Nat → List PyData) (hi : XI X cs (.Name x tpos) it ds) (ok : BlkOk X.N X.env.scope scope [(x, j)])
    (hs : ∀ i d, ds[i]? = some d → ∃ b, (∀ B : Bk, XTs (B.cx X scope) (cs.set j (.dat d)) ifs b) ∧ (b = true → ∃ y, (∀ B : Bk, XE (B.cx X scope) (cs.set j (.dat d)) elt (.dat y)) ∧ acc (i + 1) = acc i ++ [y]) ∧ (b = false → acc (i + 1) = acc i))
    (k : P.nx (cs.set i (.own (acc ds.length)))) (hc : X.calm = true) (hN : X.N.Nodup) (hj : X.N[j]? = some x) (hx : ∀ B : Bk, Loc (B.cx X scope).env.scope x) (h0 : acc 0 = []) (hn : ds.length ≤ 90000)
    (hfn : ∀ B : Bk, (B.cx X scope).fn x = true ∨ (B.cx X scope).env.scope.names.lookup x = some .local)
    (hy : X.N[i]? = some y) (hyl : X.env.scope.names.lookup y = some .local) (hsw : swapsWith (.ListComp elt [⟨.Name x tpos, it, ifs, 0⟩] scope pos) (some (.Name y py)) spos.line X.env = pure true) (hfs : ∀ y, foldedSetIterable it X.env y = pure y := by intro _; rfl) :
    XS X cs (.Assign [.Name y py] (.ListComp elt [⟨.Name x tpos, it, ifs, 0⟩] scope pos) spos) P := .mk fun en D r =>
  ⟨_, ps_setLc (i := i) (own := [(x, j)]) (g := gName j) hc hN hy hyl hsw pi_v ok (fun s H C cl fp => pg_name hN hj (hx ⟨s, H, C, cl, fp⟩) (hfn ⟨s, H, C, cl, fp⟩)) (fun s H C cl fp => ⟨fun pins s' σ H' Q I h => pts_v.run pins s' σ H' Q I (h ⟨s, H, C, cl, fp⟩)⟩)
    (fun s H C cl fp => ⟨fun pins s' σ H' Q I h => pe_v.run pins s' σ H' Q I (h ⟨s, H, C, cl, fp⟩)⟩) hfs, lcD acc h0 hn hi hs en fun v G' H' x1 r1 => r.nx _ _ _ _ k (en.set x1 r1 i) x1.eg⟩
end

/-! ### a def keeps its promise -/
section
variable {P : Program} {w : World} {K : PySem.W.Frag} {mg : Str → Option Value} {base : Heap}
theorem paired_len {α β : Type} {F : α → β → Prop} : ∀ {l : List α} {m : List β}, Paired F l m → l.length = m.length
  | _, _, .nil => rfl
  | _, _, .cons _ t => by rw [List.length_cons, List.length_cons, paired_len t]
theorem paired_get {α β : Type} {F : α → β → Prop} : ∀ {l : List α} {m : List β} {i : Nat} {b : β}, Paired F l m → m[i]? = some b → ∃ a, l[i]? = some a ∧ F a b
  | _, _, _, _, .nil, e => by simp at e
  | _, _, 0, _, .cons r _, e => ⟨_, rfl, by cases e; exact r⟩
  | _, _, i + 1, _, .cons _ t, e => by
    obtain ⟨a, h1, h2⟩ := paired_get (i := i) t e
    exact ⟨a, h1, h2⟩
theorem fn_con {x qual : Str} {st : Stmt} {f : Addr} {fd : FuncData} {N ps : List Str} {k : Nat} {α : Type} {pre : α → List Cell} {post : α → Cell → Prop} (F : Fun K x qual st f fd) (S : FnScope N ps (defScope st)) (hl : ∀ a, (pre a).length = ps.length)
    (hb : ∀ (cdv : Value) (A : Around) (outer : List PySem.Env) (s : Shared) (H : Hp) (E : XK), Room k (A.deeper (envOfC qual (defScope st) s.heap.objs.size f cdv)) → ∀ a : α,
      XSs (cxOf CX0 P w K mg base N qual (defScope st) f cdv A outer s H E).nox (pre a ++ List.replicate (N.length - ps.length) .un) (defBody st) { nx := fun _ => post a (.dat .none), rt := post a }) :
    FnOk P w K mg base CX0 (k + 1) f fd ps (Con K pre post) := by
  refine F.ok S (fun vs H Q E h => ?_) (fun cdv A outer s H vs Q E hr h => ?_)
  · obtain ⟨a, G, _, hp, _⟩ := h
    rw [paired_len hp, hl a]
  · obtain ⟨a, G, gh, hp, q⟩ := h
    have hlen : vs.length = ps.length := by rw [paired_len hp, hl a]
    refine ⟨_, pss_v, hb cdv A outer s H E hr a (Env.start (K := K) (G := G) (H := H) (fun i c hc n => ?_) gh ?_) ⟨fun G' H' σ' cs' a1 b c => ?_, fun v G' H' c a1 x _ r => ?_, fun _ _ _ _ z => z.elim, fun _ _ _ _ z => z.elim, fun _ _ _ _ z => z.elim⟩⟩
    · have hc' : (pre a)[i]? = some c := by
        by_cases hi : i < (pre a).length
        · rw [List.getElem?_append_left hi] at hc
          exact hc
        · rw [List.getElem?_append_right (by omega)] at hc
          have := List.mem_of_getElem? hc
          rw [List.mem_replicate] at this
          exact absurd this.2 n
      obtain ⟨v, h1, h2⟩ := paired_get hp hc'
      refine ⟨v, ?_, h2⟩
      have hi : i < vs.length := (List.getElem?_eq_some_iff.mp h1).1
      unfold L2.start
      rw [List.getElem?_append_left (by rw [List.length_map]; exact hi), List.getElem?_map, h1]
      rfl
    · unfold L2.start
      rw [List.length_append, List.length_map, List.length_replicate, List.length_append, List.length_replicate, hl a, hlen]
    · exact q _ G' H' _ a1 b.ext .non
    · exact q v G' H' c a1 x r
theorem cal_mk {x qual : Str} {st : Stmt} {f : Addr} {fd : FuncData} {ps : List Str} {k : Nat} {sp : Sp} (F : Fun K x qual st f fd) (h : FnOk P w K mg base CX0 k f fd ps sp) (hm : mg x = some (.ref f)) (hb : Binds K fd ps []) : Cal P w K mg base x k sp :=
  ⟨f, fd, ps, h, hm, F.kp, hb⟩
theorem Cal.mono {x : Str} {j k : Nat} {sp : Sp} (C : Cal P w K mg base x j sp) (h : j ≤ k) : Cal P w K mg base x k sp := by
  obtain ⟨f, fd, ps, F, r⟩ := C
  exact ⟨f, fd, ps, F.mono h, r⟩
end
end Fw

set_option maxRecDepth 100000
set_option maxHeartbeats 4000000
namespace Fw
open PySem PySem.Spec PyProof.Rows L2
open Evl (Ex)

/-! ### names found by their writing -/
inductive Sel : List (Option Str) → List Cell → Str → Cell → Prop
  | z {x : Str} {M : List (Option Str)} {c : Cell} {cs : List Cell} : Sel (some x :: M) (c :: cs) x c
  | s {x : Str} {y : Option Str} {M : List (Option Str)} {c d : Cell} {cs : List Cell} : Sel M cs x c → Sel (y :: M) (d :: cs) x c
inductive Upd : List (Option Str) → List Cell → Str → Cell → List Cell → Prop
  | z {x : Str} {M : List (Option Str)} {c d : Cell} {cs : List Cell} : Upd (some x :: M) (d :: cs) x c (c :: cs)
  | s {x : Str} {y : Option Str} {M : List (Option Str)} {c d : Cell} {cs cs' : List Cell} : Upd M cs x c cs' → Upd (y :: M) (d :: cs) x c (d :: cs')
inductive Fz : List Cell → List Cell → Prop
  | nil : Fz [] []
  | un {cs cs' : List Cell} : Fz cs cs' → Fz (.un :: cs) (.un :: cs')
  | dat {d : PyData} {cs cs' : List Cell} : Fz cs cs' → Fz (.dat d :: cs) (.dat d :: cs')
  | scr {d : List Int} {cs cs' : List Cell} : Fz cs cs' → Fz (.scr d :: cs) (.scr d :: cs')
  | rng {d : Nat} {cs cs' : List Cell} : Fz cs cs' → Fz (.rng d :: cs) (.rng d :: cs')
  | dic {d : List (Key × PyData)} {cs cs' : List Cell} : Fz cs cs' → Fz (.dic d :: cs) (.dic d :: cs')
  | ldc {d : List (Key × PyData)} {cs cs' : List Cell} : Fz cs cs' → Fz (.ldc d :: cs) (.ldc d :: cs')
  | own {d : List PyData} {cs cs' : List Cell} : Fz cs cs' → Fz (.own d :: cs) (.dat (.list d) :: cs')
  | odi {d : List (Key × PyData)} {cs cs' : List Cell} : Fz cs cs' → Fz (.odi d :: cs) (.dic d :: cs')
  | any {c : Cell} {cs cs' : List Cell} : Fz cs cs' → Fz (c :: cs) (c.fr :: cs')
theorem Fz.eq {cs cs' : List Cell} (h : Fz cs cs') : cs.map Cell.fr = cs' := by
  induction h with
  | nil => rfl
  | un _ ih => rw [List.map_cons, ih]; rfl
  | dat _ ih => rw [List.map_cons, ih]; rfl
  | scr _ ih => rw [List.map_cons, ih]; rfl
  | rng _ ih => rw [List.map_cons, ih]; rfl
  | dic _ ih => rw [List.map_cons, ih]; rfl
  | ldc _ ih => rw [List.map_cons, ih]; rfl
  | own _ ih => rw [List.map_cons, ih]; rfl
  | odi _ ih => rw [List.map_cons, ih]; rfl
  | any _ ih => rw [List.map_cons, ih]
inductive Has : List Str → Str → Prop
  | z {x : Str} {M : List Str} : Has (x :: M) x
  | s {x y : Str} {M : List Str} : Has M x → Has (y :: M) x
theorem Sel.ix {M : List (Option Str)} {cs : List Cell} {x : Str} {c : Cell} (h : Sel M cs x c) : ∃ i : Nat, M[i]? = some (some x) ∧ cs[i]? = some c := by
  induction h with
  | z => exact ⟨0, rfl, rfl⟩
  | s _ ih =>
    obtain ⟨i, h1, h2⟩ := ih
    exact ⟨i + 1, h1, h2⟩
theorem Upd.ix {M : List (Option Str)} {cs cs' : List Cell} {x : Str} {c : Cell} (h : Upd M cs x c cs') : ∃ i : Nat, M[i]? = some (some x) ∧ cs' = cs.set i c := by
  induction h with
  | z => exact ⟨0, rfl, rfl⟩
  | s _ ih =>
    obtain ⟨i, h1, h2⟩ := ih
    exact ⟨i + 1, h1, by rw [h2]; rfl⟩
theorem Has.mem {M : List Str} {x : Str} (h : Has M x) : x ∈ M := by
  induction h with
  | z => exact List.mem_cons_self
  | s _ ih => exact List.mem_cons_of_mem _ ih

/-- where one stands: M the names that are seen (slots from 0), GL the global ones, BL the built-ins among them -/
structure Nm (X : Cx) (P : Program) (w : World) (K : PySem.W.Frag) (mg : Str → Option Value) (base : Heap) (k : Nat) (M : List (Option Str)) (GL BL : List Str) : Prop where
  hP : X.prog = P
  hw : X.w = w
  hK : X.K = K
  hmg : X.mg = mg
  hbase : X.base = base
  room : Room k X.A
  pre : ∀ (i : Nat) x, M[i]? = some (some x) → X.N[i]? = some x
  nd : X.N.Nodup
  calm : X.calm = true
  dbg : ∀ x, some x ∈ M → (x == ("__debug__" : Str)) = false ∧ (x == ("__classdict__" : Str)) = false
  vis : ∀ x, some x ∈ M → Vis X.env.scope x
  gl : ∀ x ∈ GL, Gl X x ∧ (x == ("__debug__" : Str)) = false ∧ x ≠ "__name__"
  bl : ∀ x ∈ BL, mg x = none
structure Nd (X : Cx) (M : List (Option Str)) : Prop where
  loc : ∀ x, some x ∈ M → Loc X.env.scope x ∧ (X.fn x = true ∨ X.env.scope.names.lookup x = some .local)
  own : PassesOwn (model X.prog X.w) X.A X.env X.xe
def visB (sc : Scope) (x : Str) : Bool := match sc.names.lookup x with
  | some .local => true
  | some .cell => true
  | some .free => true
  | _ => false
theorem visB_ok {sc : Scope} {x : Str} (h : visB sc x = true) : Vis sc x := by
  unfold visB at h
  split at h
  · exact .inl (by assumption)
  · exact .inr (.inl (by assumption))
  · exact .inr (.inr (by assumption))
  · cases h
def locB (sc : Scope) (x : Str) : Bool := match sc.names.lookup x with
  | some .local => true
  | some .cell => true
  | _ => false
theorem locB_ok {sc : Scope} {x : Str} (h : locB sc x = true) : Loc sc x := by
  unfold locB at h
  split at h
  · exact .inl (by assumption)
  · exact .inr (by assumption)
  · cases h
def glB (sc : Scope) (x : Str) : Bool := match sc.names.lookup x with
  | some .globalImplicit => true
  | _ => false
theorem glB_ok {X : Cx} {x : Str} (h : glB X.env.scope x = true) : Gl X x := by
  unfold glB at h
  split at h
  · assumption
  · cases h
def chk (sc : Scope) (M : List (Option Str)) (GL : List Str) : Bool := (M.all fun o => match o with | some x => locB sc x && (x != ("__debug__" : Str)) && (x != ("__classdict__" : Str)) | none => true) && (GL.all fun x => glB sc x && (x != ("__debug__" : Str)) && (x != ("__name__" : Str)))
def chkB (sc : Scope) (M : List (Option Str)) (GL : List Str) : Bool := (M.all fun o => match o with | some x => visB sc x && (x != ("__debug__" : Str)) && (x != ("__classdict__" : Str)) | none => true) && (GL.all fun x => glB sc x && (x != ("__debug__" : Str)) && (x != ("__name__" : Str)))
def preB : List (Option Str) → List Str → Bool
  | [], _ => true
  | none :: M, _ :: N => preB M N
  | some x :: M, y :: N => decide (x = y) && preB M N
  | _, _ => false
theorem preB_ok : ∀ {M : List (Option Str)} {N : List Str}, preB M N = true → ∀ (i : Nat) x, M[i]? = some (some x) → N[i]? = some x
  | [], _, _, i, x, e => by simp at e
  | none :: M, y :: N, h, 0, x, e => by cases e
  | none :: M, y :: N, h, i + 1, x, e => preB_ok (M := M) h i x (by simpa using e)
  | some z :: M, y :: N, h, 0, x, e => by
    have h' : (decide (z = y) && preB M N) = true := h
    rw [Bool.and_eq_true] at h'
    cases e
    have := of_decide_eq_true h'.1
    rw [this]
    rfl
  | some z :: M, y :: N, h, i + 1, x, e => by
    have h' : (decide (z = y) && preB M N) = true := h
    rw [Bool.and_eq_true] at h'
    exact preB_ok (M := M) h'.2 i x (by simpa using e)
  | none :: M, [], h, _, _, _ => by cases h
  | some _ :: M, [], h, _, _, _ => by cases h
theorem nm_fn {P : Program} {w : World} {K : PySem.W.Frag} {mg : Str → Option Value} {base : Heap} {N ps : List Str} {qual : Str} {sc : Scope} {f : Addr} {cdv : Value} {A : Around} {outer : List PySem.Env} {s : Shared} {H : Hp} {E : XK} {k : Nat} (M : List (Option Str)) (GL BL : List Str)
    (S : FnScope N ps sc) (hc : chk sc M GL = true) (hM : preB M N = true) (hb : ∀ x ∈ BL, mg x = none) (hr : Room k (A.deeper (envOfC qual sc s.heap.objs.size f cdv))) :
    Nm (cxOf CX0 P w K mg base N qual sc f cdv A outer s H E).nox P w K mg base k M GL BL ∧ Nd (cxOf CX0 P w K mg base N qual sc f cdv A outer s H E).nox M := by
  unfold chk at hc
  rw [Bool.and_eq_true, List.all_eq_true, List.all_eq_true] at hc
  obtain ⟨h1, h2⟩ := hc
  have h1' : ∀ x, some x ∈ M → locB sc x = true ∧ (x == ("__debug__" : Str)) = false ∧ (x == ("__classdict__" : Str)) = false := fun x hx => by
    have q := h1 _ hx
    simp only at q
    rw [Bool.and_eq_true, Bool.and_eq_true] at q
    exact ⟨q.1.1, by simpa [bne] using q.1.2, by simpa [bne] using q.2⟩
  refine ⟨⟨rfl, rfl, rfl, rfl, rfl, hr, preB_ok hM, S.nd, rfl, fun x hx => (h1' x hx).2, fun x hx => ?_, fun x hx => ?_, hb⟩, ⟨fun x hx => ⟨locB_ok (h1' x hx).1, .inl rfl⟩, PassesOwn.never⟩⟩
  · rcases locB_ok (h1' x hx).1 with h | h
    · exact .inl h
    · exact .inr (.inl h)
  · have q := h2 x hx
    rw [Bool.and_eq_true, Bool.and_eq_true] at q
    exact ⟨glB_ok (X := (cxOf CX0 P w K mg base N qual sc f cdv A outer s H E).nox) q.1.1, by simpa [bne] using q.1.2, by simpa [bne] using q.2⟩
/-- a comprehension's block -/
theorem nm_blk {X : Cx} {P : Program} {w : World} {K : PySem.W.Frag} {mg : Str → Option Value} {base : Heap} {k : Nat} {M0 : List (Option Str)} {GL0 BL : List Str} (nm : Nm X P w K mg base k M0 GL0 BL) (M : List (Option Str)) (GL : List Str) {scope : Scope} {sc : Scope} {N : List Str} (hN : X.N = N) (hsc : X.env.scope = sc) (hc : chkB (relS scope sc) M GL = true) (hM : preB M N = true) (B : Bk) :
    Nm (B.cx X scope) P w K mg base k M GL BL := by
  subst hN
  subst hsc
  unfold chkB at hc
  rw [Bool.and_eq_true, List.all_eq_true, List.all_eq_true] at hc
  obtain ⟨h1, h2⟩ := hc
  have h1' : ∀ x, some x ∈ M → visB (relS scope X.env.scope) x = true ∧ (x == ("__debug__" : Str)) = false ∧ (x == ("__classdict__" : Str)) = false := fun x hx => by
    have q := h1 _ hx
    simp only at q
    rw [Bool.and_eq_true, Bool.and_eq_true] at q
    exact ⟨q.1.1, by simpa [bne] using q.1.2, by simpa [bne] using q.2⟩
  refine ⟨nm.hP, nm.hw, nm.hK, nm.hmg, nm.hbase, nm.room, preB_ok hM, nm.nd, nm.calm, fun x hx => (h1' x hx).2, fun x hx => visB_ok (h1' x hx).1, fun x hx => ?_, nm.bl⟩
  have q := h2 x hx
  rw [Bool.and_eq_true, Bool.and_eq_true] at q
  exact ⟨glB_ok (X := B.cx X scope) q.1.1, by simpa [bne] using q.1.2, by simpa [bne] using q.2⟩

section
variable {X : Cx} {P : Program} {w : World} {K : PySem.W.Frag} {mg : Str → Option Value} {base : Heap} {k : Nat} {M : List (Option Str)} {GL BL : List Str} {cs cs' : List Cell} {pos p pos' : Pos} {Po : Po}
theorem Nm.hu (nm : Nm X P w K mg base k M GL BL) : X.A.units + 64 < cLine := nm.room.units
theorem Nm.hu5 (nm : Nm X P w K mg base k M GL BL) : X.A.units + 65 < cLine := by have := nm.room.un; omega
theorem Nm.hu1 (nm : Nm X P w K mg base k M GL BL) : X.A.units + 1 < cLine := by have := nm.room.un; omega
theorem ve (nm : Nm X P w K mg base k M GL BL) {x : Str} {d : PyData} (h : Sel M cs x (.dat d)) : XE X cs (.Name x pos) (.dat d) := by
  obtain ⟨i, h1, h2⟩ := h.ix
  have hm := List.mem_of_getElem? h1
  exact xe_dt i h2 (nm.pre i x h1) (nm.vis x hm) (nm.dbg x hm).1 (nm.dbg x hm).2
theorem ve' (nm : Nm X P w K mg base k M GL BL) {x : Str} {c : Cell} (h : Sel M cs x c) (ho : c.isOwn = false := by rfl) (hu : c ≠ .un := by intro z; cases z) : XE X cs (.Name x pos) c := by
  obtain ⟨i, h1, h2⟩ := h.ix
  have hm := List.mem_of_getElem? h1
  exact xe_nm i h2 ho hu (nm.pre i x h1) (nm.vis x hm) (nm.dbg x hm).1 (nm.dbg x hm).2
theorem gle (nm : Nm X P w K mg base k M GL BL) {x : Str} {v : V} {u : Value} {d : PyData} (hg : Has GL x) (hm : mg x = some u) (r : RelV v u) (hd' : ∀ G, Dt G v d) : XE X cs (.Name x pos) (.dat d) :=
  xe_glob (by rw [nm.hmg]; exact hm) (nm.gl x hg.mem).1 r hd' (nm.gl x hg.mem).2.1
theorem gle_int (nm : Nm X P w K mg base k M GL BL) {x : Str} {i : Int} {t : Tok} (hg : Has GL x) (hm : mg x = some (.int i t)) : XE X cs (.Name x pos) (.dat (.int i)) := gle nm hg hm (v := .int i) ⟨t, rfl⟩ (fun _ => .int i)
theorem gle_str (nm : Nm X P w K mg base k M GL BL) {x : Str} {i : Str} {t : Tok} (hg : Has GL x) (hm : mg x = some (.str i t)) : XE X cs (.Name x pos) (.dat (.str i)) := gle nm hg hm (v := .str i) ⟨t, rfl⟩ (fun _ => .str i)
/-- a built-in called by its name -/
theorem bie (nm : Nm X P w K mg base k M GL BL) {x : Str} {id : String} {e : Expr} {es : List Expr} {ds : List PyData} {c : Cell} (hg : Has GL x) (hb : Has BL x) (hv : bootBuiltins x = some (.builtin id)) (ha : XD X cs (e :: es) ds) (h : CallD X (.builtin id) ds c)
    (he : starEach (e :: es) X.env = (false, eval e X.env) :: starEach es X.env := by rfl) (hpl : (backTo pos (starEach es X.env)).any (·.1) = false := by rfl) : XE X cs (.Call (.Name x p) (e :: es) [] pos) c :=
  xe_callB h (by rw [nm.hmg]; exact nm.bl x hb.mem) hv (nm.gl x hg.mem).1 ha (nm.gl x hg.mem).2.2 (nm.gl x hg.mem).2.1 he hpl
theorem bty (nm : Nm X P w K mg base k M GL BL) {x : Str} {T : String} {e : Expr} {es : List Expr} {ds : List PyData} {c : Cell} (hg : Has GL x) (hb : Has BL x) (hv : bootBuiltins x = some (.type T)) (ha : XD X cs (e :: es) ds) (h : CallD X (.type T) ds c)
    (he : starEach (e :: es) X.env = (false, eval e X.env) :: starEach es X.env := by rfl) (hpl : (backTo pos (starEach es X.env)).any (·.1) = false := by rfl) : XE X cs (.Call (.Name x p) (e :: es) [] pos) c :=
  xe_callTy h (by rw [nm.hmg]; exact nm.bl x hb.mem) hv (nm.gl x hg.mem).1 ha (nm.gl x hg.mem).2.2 (nm.gl x hg.mem).2.1 he hpl
def isTn (n T : String) : Bool := n == T || (n == "bool" && T == "int")
def isT (d : PyData) (T : String) : Bool := isTn (tyD d) T
def tyNames : List String := ["NoneType", "bool", "int", "str", "list", "tuple", "dict"]
theorem ty_mem (d : PyData) : tyD d ∈ tyNames := by cases d <;> simp [tyD, tyNames]
theorem kit_str (d : PyData) : ∀ K, PySem.W.kitOne K (.type (tyD d)) (.type "str") = some (isT d "str") := fun K => kit_ty ((show ∀ n ∈ tyNames, kitB n "str" = some (isTn n "str") by decide +kernel) _ (ty_mem d))
theorem kit_tup (d : PyData) : ∀ K, PySem.W.kitOne K (.type (tyD d)) (.type "tuple") = some (isT d "tuple") := fun K => kit_ty ((show ∀ n ∈ tyNames, kitB n "tuple" = some (isTn n "tuple") by decide +kernel) _ (ty_mem d))
theorem kit_list (d : PyData) : ∀ K, PySem.W.kitOne K (.type (tyD d)) (.type "list") = some (isT d "list") := fun K => kit_ty ((show ∀ n ∈ tyNames, kitB n "list" = some (isTn n "list") by decide +kernel) _ (ty_mem d))
theorem kit_int (d : PyData) : ∀ K, PySem.W.kitOne K (.type (tyD d)) (.type "int") = some (isT d "int") := fun K => kit_ty ((show ∀ n ∈ tyNames, kitB n "int" = some (isTn n "int") by decide +kernel) _ (ty_mem d))
theorem kit_bool (d : PyData) : ∀ K, PySem.W.kitOne K (.type (tyD d)) (.type "bool") = some (isT d "bool") := fun K => kit_ty ((show ∀ n ∈ tyNames, kitB n "bool" = some (isTn n "bool") by decide +kernel) _ (ty_mem d))
theorem kit_dict (d : PyData) : ∀ K, PySem.W.kitOne K (.type (tyD d)) (.type "dict") = some (isT d "dict") := fun K => kit_ty ((show ∀ n ∈ tyNames, kitB n "dict" = some (isTn n "dict") by decide +kernel) _ (ty_mem d))
theorem bb_str : bootBuiltins "str" = some (.type "str") := by decide +kernel
theorem bb_tuple : bootBuiltins "tuple" = some (.type "tuple") := by decide +kernel
theorem bb_list : bootBuiltins "list" = some (.type "list") := by decide +kernel
theorem bb_int : bootBuiltins "int" = some (.type "int") := by decide +kernel
theorem bb_bool : bootBuiltins "bool" = some (.type "bool") := by decide +kernel
theorem bb_dict : bootBuiltins "dict" = some (.type "dict") := by decide +kernel
theorem bb_len : bootBuiltins "len" = some (.builtin "len") := by decide +kernel
theorem bb_max : bootBuiltins "max" = some (.builtin "max") := by decide +kernel
theorem bb_min : bootBuiltins "min" = some (.builtin "min") := by decide +kernel
theorem bb_all : bootBuiltins "all" = some (.builtin "all") := by decide +kernel
theorem bb_sorted : bootBuiltins "sorted" = some (.builtin "sorted") := by decide +kernel
theorem isi (nm : Nm X P w K mg base k M GL BL) {x : Expr} {T : Str} {Tn : String} {d : PyData} {b : Bool} (hg : Has GL "isinstance") (hb : Has BL "isinstance") (hgT : Has GL T) (hbT : Has BL T) (hx : XE X cs x (.dat d)) (hk : ∀ K, PySem.W.kitOne K (.type (tyD d)) (.type Tn) = some b) (hv : bootBuiltins T = some (.type Tn))
    (he : starEach [x, .Name T p] X.env = (false, eval x X.env) :: starEach [.Name T p] X.env := by rfl) (he2 : starEach [.Name T p] X.env = (false, eval (.Name T p) X.env) :: starEach [] X.env := by rfl) (hpl : (backTo pos (starEach [.Name T p] X.env)).any (·.1) = false := by rfl) :
    XE X cs (.Call (.Name "isinstance" pos') [x, .Name T p] [] pos) (.dat (.bool b)) :=
  xe_isi hx hk (by rw [nm.hmg]; exact nm.bl _ hb.mem) (by rw [nm.hmg]; exact nm.bl _ hbT.mem) hv (nm.gl _ hg.mem).1 (nm.gl _ hgT.mem).1 (nm.gl _ hgT.mem).2.2 (nm.gl _ hgT.mem).2.1 he he2 hpl
def Cell.isFr : Cell → Bool
  | .dat _ => true
  | .dic _ => true
  | .ldc _ => true
  | .scr _ => true
  | .rng _ => true
  | _ => false
theorem xa_c {e : Expr} {es : List Expr} {c : Cell} {cl : List Cell} (h : XE X cs e c) (n : c.isFr = true) (hr : XA X cs es cl) (hs : starEach (e :: es) X.env = (false, eval e X.env) :: starEach es X.env := by rfl) : XA X cs (e :: es) (c :: cl) := by
  have e : c.fr = c := by cases c <;> first | rfl | cases n
  have q := xa_cons h (fun z => by subst z; cases n) hr hs
  rw [e] at q
  exact q
/-- a def called -/
theorem cal (nm : Nm X P w K mg base k M GL BL) {x : Str} {j : Nat} {α : Type} {pre : α → List Cell} {post : α → Cell → Prop} (C : Cal P w K mg base x j (Con K pre post)) (hj : j ≤ k) (hg : Has GL x) (a : α) {e : Expr} {es : List Expr} (ha : XA X cs (e :: es) (pre a))
    (he : starEach (e :: es) X.env = (false, eval e X.env) :: starEach es X.env := by rfl) (hpl : (backTo pos (starEach es X.env)).any (·.1) = false := by rfl) :
    XEP X cs (.Call (.Name x p) (e :: es) [] pos) (post a) := by
  obtain ⟨rfl, rfl, rfl, rfl, rfl⟩ : X.prog = P ∧ X.w = w ∧ X.K = K ∧ X.mg = mg ∧ X.base = base := ⟨nm.hP, nm.hw, nm.hK, nm.hmg, nm.hbase⟩
  exact xe_call C (nm.room.mono hj) a ha (nm.gl x hg.mem).1 (nm.gl x hg.mem).2.1 he hpl
theorem XEP.to {e : Expr} {c : Cell} {R : Cell → Prop} (h : XEP X cs e R) (u : ∀ c', R c' → c' = c) : XE X cs e c := .mk fun en Q q => h en fun v G' H' c' pc x r => by
  have e := u c' pc
  subst e
  exact q v G' H' x r
/-- .. whose promise tells its value -/
theorem calE (nm : Nm X P w K mg base k M GL BL) {x : Str} {j : Nat} {α : Type} {pre : α → List Cell} {val : α → Cell} (C : Cal P w K mg base x j (Con K pre fun a c => c = val a)) (hj : j ≤ k) (hg : Has GL x) (a : α) {e : Expr} {es : List Expr} (ha : XA X cs (e :: es) (pre a))
    (he : starEach (e :: es) X.env = (false, eval e X.env) :: starEach es X.env := by rfl) (hpl : (backTo pos (starEach es X.env)).any (·.1) = false := by rfl) :
    XE X cs (.Call (.Name x p) (e :: es) [] pos) (val a) := (cal nm C hj hg a ha he hpl).to fun _ h => h
/-! statements -/
theorem set (nm : Nm X P w K mg base k M GL BL) (nd : Nd X M) {x : Str} {e : Expr} {c : Cell} (he : XE X cs e c) (hu : Upd M cs x c cs') (kk : Po.nx cs') (hs : swapsWith e (some (.Name x pos')) pos.line X.env = pure false := by rfl) : XS X cs (.Assign [.Name x pos'] e pos) Po := by
  obtain ⟨i, h1, rfl⟩ := hu.ix
  have hm := List.mem_of_getElem? h1
  exact x_set i he (nm.pre i x h1) (nd.loc x hm).1 nm.nd kk hs (nd.loc x hm).2
theorem setP (nm : Nm X P w K mg base k M GL BL) (nd : Nd X M) {x : Str} {e : Expr} {R : Cell → Prop} (he : XEP X cs e R) {f : Cell → List Cell} (hu : ∀ c, Upd M cs x c (f c)) (kk : ∀ c, R c → Po.nx (f c)) (hs : swapsWith e (some (.Name x pos')) pos.line X.env = pure false := by rfl) : XS X cs (.Assign [.Name x pos'] e pos) Po := by
  obtain ⟨i, h1, _⟩ := (hu .un).ix
  have hm := List.mem_of_getElem? h1
  refine x_setP i he (nm.pre i x h1) (nd.loc x hm).1 nm.nd (fun c hc => ?_) hs (nd.loc x hm).2
  obtain ⟨i', h1', e'⟩ := (hu c).ix
  have : i = i' := nodup_ix nm.nd (nm.pre i x h1) (nm.pre i' x h1')
  subst this
  rw [← e']
  exact kk c hc
theorem retN (nm : Nm X P w K mg base k M GL BL) {x : Str} {c : Cell} (h : Sel M cs x c) (kk : Po.rt c) (hu : c ≠ .un := by intro z; cases z) : XS X cs (.Return (some (.Name x p)) pos) Po := by
  obtain ⟨i, h1, h2⟩ := h.ix
  have hm := List.mem_of_getElem? h1
  exact x_retN i h2 hu (nm.pre i x h1) (nm.vis x hm) kk (nm.dbg x hm).1 (nm.dbg x hm).2
theorem app (nm : Nm X P w K mg base k M GL BL) {x : Str} {e : Expr} {ds : List PyData} {d : PyData} {ap : Pos} (h : Sel M cs x (.own ds)) (hu : Upd M cs x (.own (ds ++ [d])) cs') (he : XE X cs e (.dat d)) (hl : ds.length < 100000) (kk : Po.nx cs')
    (hbase : attributeBase (.Name x p) "append" X.env (eval (.Name x p) X.env) = eval (.Name x p) X.env := by rfl)
    (hfew : ((backTo pos' (starEach [e] X.env)).all (fun x => !x.1) && (backToKw pos' (keywordEach [] X.env)).all (fun x => x.1.isSome) && decide (([e] : List Expr).length + ([] : List Keyword).length + (if ([] : List Keyword).isEmpty then 0 else 1) < 30)) = true := by rfl)
    (hline : (ap.endLine == pos'.line) = true := by rfl) (hst : starEach [e] X.env = (false, eval e X.env) :: starEach [] X.env := by rfl) (hplain : (backTo pos' (starEach [] X.env)).any (·.1) = false := by rfl)
    (hs : swapsWith (.Call (.Attribute (.Name x p) "append" ap) [e] [] pos') none pos.line X.env = pure false := by rfl) :
    XS X cs (.Expr (.Call (.Attribute (.Name x p) "append" ap) [e] [] pos') pos) Po := by
  obtain ⟨i, h1, h2⟩ := h.ix
  obtain ⟨i', h1', rfl⟩ := hu.ix
  have : i = i' := nodup_ix nm.nd (nm.pre i x h1) (nm.pre i' x h1')
  subst this
  have hm := List.mem_of_getElem? h1
  exact x_app i h2 he hl (nm.pre i x h1) (nm.vis x hm) kk (nm.dbg x hm).1 (nm.dbg x hm).2 hbase hfew hline hst hplain hs
theorem gnm (nm : Nm X P w K mg base k M GL BL) (nd : Nd X M) {x : Str} {d : PyData} {R : List Cell → Prop} (hu : Upd M cs x (.dat d) cs') (kk : R cs') : XG X cs (.Name x pos) d R := by
  obtain ⟨i, h1, rfl⟩ := hu.ix
  have hm := List.mem_of_getElem? h1
  exact xg_name i (nm.pre i x h1) (nd.loc x hm).1 nm.nd kk (nd.loc x hm).2
theorem rg1 (nm : Nm X P w K mg base k M GL BL) {tg a : Expr} {n : Int} (hg : Has GL "range") (hb : Has BL "range") (h : XE X cs a (.dat (.int n))) (hbd : -(2 ^ 62) ≤ n ∧ n < 2 ^ 62) (hs : starEach [a] X.env = [(false, eval a X.env)] := by rfl) : XI X cs tg (.Call (.Name "range" p) [a] [] pos) (rangeD 0 n.toNat) :=
  xi_range1 h (by rw [nm.hmg]; exact nm.bl _ hb.mem) hbd (nm.gl _ hg.mem).1 hs
theorem rg2 (nm : Nm X P w K mg base k M GL BL) {tg a b : Expr} {m n : Int} (hg : Has GL "range") (hb : Has BL "range") (ha : XE X cs a (.dat (.int m))) (h : XE X cs b (.dat (.int n))) (hbd : -(2 ^ 62) ≤ m ∧ m < 2 ^ 62 ∧ -(2 ^ 62) ≤ n ∧ n < 2 ^ 62)
    (hs : starEach [a, b] X.env = [(false, eval a X.env), (false, eval b X.env)] := by rfl) (hs2 : starEach [b] X.env = [(false, eval b X.env)] := by rfl) : XI X cs tg (.Call (.Name "range" p) [a, b] [] pos) (rangeD m (n - m).toNat) :=
  xi_range2 ha h (by rw [nm.hmg]; exact nm.bl _ hb.mem) hbd (nm.gl _ hg.mem).1 hs hs2
theorem enu (nm : Nm X P w K mg base k M GL BL) {a : Expr} {tpos : Pos} {elts : List Expr} {kk : Nat} {ds : List PyData} (hg : Has GL "enumerate") (hb : Has BL "enumerate") (h : XE X cs a (.dat (.list ds))) (hs : starEach [a] X.env = [(false, eval a X.env)] := by rfl) :
    XI X cs (.Tuple elts kk tpos) (.Call (.Name "enumerate" p) [a] [] pos) (enumD ds) := xi_enum h (by rw [nm.hmg]; exact nm.bl _ hb.mem) (nm.gl _ hg.mem).1 hs
theorem for_ (nm : Nm X P w K mg base k M GL BL) (nd : Nd X M) {tg it : Expr} {body : List Stmt} {ds : List PyData} (I : Nat → List Cell → Prop) (hi : XI X cs tg it ds) (h0 : I 0 cs)
    (hb : ∀ i d cs', ds[i]? = some d → I i cs' → XG X cs' tg d fun cs2 => XSs X cs2 body { nx := I (i + 1), rt := Po.rt, bk := Po.nx, ct := I (i + 1), ex := Po.ex, E := Po.E }) (hd : ∀ cs', I ds.length cs' → Po.nx cs') (hs : ∀ x, foldedSetIterable it X.env x = pure x := by intro _; rfl) : XS X cs (.For tg it body [] pos) Po :=
  x_for I nd.own nm.calm hi h0 hb hd hs
theorem if_ {t : Expr} {a b : List Stmt} {kk : Bool} (hf : Fz cs cs') (h : XT X cs' t kk) (h1 : kk = true → XSs X cs a Po) (h2 : kk = false → XSs X cs b Po) : XS X cs (.If t a b pos) Po := x_if (by rw [hf.eq]; exact h) h1 h2
theorem sc (hf : Fz cs cs') {e : Expr} {d : PyData} (h : XE X cs' e (.dat d)) (s : scalD d = true := by rfl) : XE X cs e (.dat d) := XE.frz (by rw [hf.eq]; exact h) s
theorem while_ (nd : Nd X M) {t : Expr} {body : List Stmt} (I : Nat → List Cell → Prop) (m0 : Nat) (h0 : I m0 cs)
    (hb : ∀ m cs', I m cs' → ∃ b c2, Fz cs' c2 ∧ XT X c2 t b ∧ (b = true → XSs X cs' body { nx := fun c => ∃ m', m' < m ∧ I m' c, rt := Po.rt, bk := Po.nx, ct := fun c => ∃ m', m' < m ∧ I m' c, ex := Po.ex, E := Po.E }) ∧ (b = false → Po.nx cs')) : XS X cs (.While t body [] pos) Po :=
  x_while I m0 nd.own h0 fun m c hm => by
    obtain ⟨b, c2, hf, h, r⟩ := hb m c hm
    exact ⟨b, by rw [hf.eq]; exact h, r⟩
end
end Fw
namespace Fw
open PySem PySem.Spec PyProof.Rows L2
inductive BI : Str → String → Prop
  | len : BI "len" "len"
  | max : BI "max" "max"
  | min : BI "min" "min"
  | all : BI "all" "all"
  | any : BI "any" "any"
  | sorted : BI "sorted" "sorted"
  | sum : BI "sum" "sum"
  | abs : BI "abs" "abs"
theorem BI.ok {x : Str} {id : String} (h : BI x id) : bootBuiltins x = some (.builtin id) := by cases h <;> decide +kernel
inductive BT : Str → String → Prop
  | list : BT "list" "list"
  | tuple : BT "tuple" "tuple"
  | str : BT "str" "str"
  | int : BT "int" "int"
  | bool : BT "bool" "bool"
  | dict : BT "dict" "dict"
theorem BT.ok {x : Str} {id : String} (h : BT x id) : bootBuiltins x = some (.type id) := by cases h <;> decide +kernel
theorem BT.kit {x : Str} {id : String} (h : BT x id) (d : PyData) : ∀ K, PySem.W.kitOne K (.type (tyD d)) (.type id) = some (isT d id) := by
  cases h
  · exact kit_list d
  · exact kit_tup d
  · exact kit_str d
  · exact kit_int d
  · exact kit_bool d
  · exact kit_dict d
section
variable {X : Cx} {P : Program} {w : World} {K : PySem.W.Frag} {mg : Str → Option Value} {base : Heap} {k : Nat} {M : List (Option Str)} {GL BL : List Str} {cs cs' : List Cell} {pos p pos' : Pos} {Po : Po}
theorem cbi (nm : Nm X P w K mg base k M GL BL) {x : Str} {id : String} {e : Expr} {es : List Expr} {ds : List PyData} {c : Cell} (hv : BI x id) (hg : Has GL x) (hb : Has BL x) (ha : XD X cs (e :: es) ds) (h : CallD X (.builtin id) ds c)
    (he : starEach (e :: es) X.env = (false, eval e X.env) :: starEach es X.env := by rfl) (hpl : (backTo pos (starEach es X.env)).any (·.1) = false := by rfl) : XE X cs (.Call (.Name x p) (e :: es) [] pos) c := bie nm hg hb hv.ok ha h he hpl
theorem cty (nm : Nm X P w K mg base k M GL BL) {x : Str} {id : String} {e : Expr} {es : List Expr} {ds : List PyData} {c : Cell} (hv : BT x id) (hg : Has GL x) (hb : Has BL x) (ha : XD X cs (e :: es) ds) (h : CallD X (.type id) ds c)
    (he : starEach (e :: es) X.env = (false, eval e X.env) :: starEach es X.env := by rfl) (hpl : (backTo pos (starEach es X.env)).any (·.1) = false := by rfl) : XE X cs (.Call (.Name x p) (e :: es) [] pos) c := bty nm hg hb hv.ok ha h he hpl
theorem cisi (nm : Nm X P w K mg base k M GL BL) {x : Expr} {T : Str} {Tn : String} {d : PyData} (hv : BT T Tn) (hg : Has GL "isinstance") (hb : Has BL "isinstance") (hgT : Has GL T) (hbT : Has BL T) (hx : XE X cs x (.dat d))
    (he : starEach [x, .Name T p] X.env = (false, eval x X.env) :: starEach [.Name T p] X.env := by rfl) (he2 : starEach [.Name T p] X.env = (false, eval (.Name T p) X.env) :: starEach [] X.env := by rfl) (hpl : (backTo pos (starEach [.Name T p] X.env)).any (·.1) = false := by rfl) :
    XE X cs (.Call (.Name "isinstance" pos') [x, .Name T p] [] pos) (.dat (.bool (isT d Tn))) := isi nm hg hb hgT hbT hx (hv.kit d) hv.ok he he2 hpl
end
end Fw
namespace Fw
open PySem PySem.Spec PyProof.Rows L2
theorem blk {X : Cx} {P : Program} {w : World} {K : PySem.W.Frag} {mg : Str → Option Value} {base : Heap} {k : Nat} {M0 : List (Option Str)} {GL0 BL : List Str} {cs : List Cell} {e : Expr} {c : Cell} {B : Bk} {scope : Scope} (nm : Nm X P w K mg base k M0 GL0 BL) (N : List Str) (sc : Scope) (M : List (Option Str)) (GL : List Str)
    (hN : X.N = N) (hsc : X.env.scope = sc) (hc : (chkB (relS scope sc) M GL && preB M N) = true) (h : Nm (B.cx X scope) P w K mg base k M GL BL → XE (B.cx X scope) cs e c) : XE (B.cx X scope) cs e c := by
  rw [Bool.and_eq_true] at hc
  exact h (nm_blk nm M GL hN hsc hc.1 hc.2 B)
theorem blkT {X : Cx} {P : Program} {w : World} {K : PySem.W.Frag} {mg : Str → Option Value} {base : Heap} {k : Nat} {M0 : List (Option Str)} {GL0 BL : List Str} {cs : List Cell} {e : Expr} {c : Bool} {B : Bk} {scope : Scope} (nm : Nm X P w K mg base k M0 GL0 BL) (N : List Str) (sc : Scope) (M : List (Option Str)) (GL : List Str)
    (hN : X.N = N) (hsc : X.env.scope = sc) (hc : (chkB (relS scope sc) M GL && preB M N) = true) (h : Nm (B.cx X scope) P w K mg base k M GL BL → XT (B.cx X scope) cs e c) : XT (B.cx X scope) cs e c := by
  rw [Bool.and_eq_true] at hc
  exact h (nm_blk nm M GL hN hsc hc.1 hc.2 B)
def lcB (N : List Str) (sc scope : Scope) (x : Str) (j : Nat) : Bool := blkC N sc scope [(x, j)] && (match (relS scope sc).names.lookup x with | some .local => true | _ => false) && decide (N[j]? = some x)
section
variable {X : Cx} {P : Program} {w : World} {K : PySem.W.Frag} {mg : Str → Option Value} {base : Heap} {k : Nat} {M : List (Option Str)} {GL BL : List Str} {cs cs' : List Cell} {pos p pos' : Pos} {Po : Po}
/-- [elt for x in it if ..], in full -/
theorem lcg (nm : Nm X P w K mg base k M GL BL) {N : List Str} {sc scope : Scope} (hN : X.N = N) (hsc : X.env.scope = sc) {x : Str} (j : Nat) {elt it : Expr} {ifs : List Expr} {ds : List PyData} {tpos : Pos} (acc : Nat → List PyData) (h0 : acc 0 = []) (hn : ds.length ≤ 90000) (hi : XI X cs (.Name x tpos) it ds)
    (hok : lcB N sc scope x j = true)
    (hs : ∀ i d, ds[i]? = some d → ∃ b, (∀ B : Bk, XTs (B.cx X scope) (cs.set j (.dat d)) ifs b) ∧ (b = true → ∃ y, (∀ B : Bk, XE (B.cx X scope) (cs.set j (.dat d)) elt (.dat y)) ∧ acc (i + 1) = acc i ++ [y]) ∧ (b = false → acc (i + 1) = acc i))
    (hfs : ∀ y, foldedSetIterable it X.env y = pure y := by intro _; rfl) : XE X cs (.ListComp elt [⟨.Name x tpos, it, ifs, 0⟩] scope pos) (.own (acc ds.length)) := by
  subst hN
  subst hsc
  unfold lcB at hok
  rw [Bool.and_eq_true, Bool.and_eq_true] at hok
  obtain ⟨⟨h1, h2⟩, h3⟩ := hok
  have h2' : (relS scope X.env.scope).names.lookup x = some .local := by
    split at h2
    · assumption
    · cases h2
  exact xe_lc acc hi (blkOk_by h1) hs nm.calm nm.nd (of_decide_eq_true h3) (fun B => .inl h2') h0 hn (fun B => .inr h2') hfs
theorem acc_map {f : Nat → PyData → PyData} {ds : List PyData} {i : Nat} {d : PyData} (h : ds[i]? = some d) : ((ds.zipIdx.take (i + 1)).map fun p => f p.2 p.1) = ((ds.zipIdx.take i).map fun p => f p.2 p.1) ++ [f i d] := by
  rw [List.take_add_one, List.getElem?_zipIdx, h, List.map_append]
  simp
/-- [elt for x in it] -/
theorem lcm (nm : Nm X P w K mg base k M GL BL) {N : List Str} {sc scope : Scope} (hN : X.N = N) (hsc : X.env.scope = sc) {x : Str} (j : Nat) {elt it : Expr} {ds : List PyData} {tpos : Pos} (f : Nat → PyData → PyData) (hn : ds.length ≤ 90000) (hi : XI X cs (.Name x tpos) it ds)
    (hok : lcB N sc scope x j = true) (hs : ∀ i d, ds[i]? = some d → ∀ B : Bk, XE (B.cx X scope) (cs.set j (.dat d)) elt (.dat (f i d)))
    (hfs : ∀ y, foldedSetIterable it X.env y = pure y := by intro _; rfl) : XE X cs (.ListComp elt [⟨.Name x tpos, it, [], 0⟩] scope pos) (.own (ds.zipIdx.map fun p => f p.2 p.1)) :=
  (lcg nm hN hsc j (fun i => (ds.zipIdx.take i).map fun p => f p.2 p.1) rfl hn hi hok (fun i d hd => ⟨true, fun _ => xts_nil, fun _ => ⟨_, hs i d hd, acc_map hd⟩, fun z => by cases z⟩) hfs).is (by
    rw [List.take_of_length_le]
    rw [List.length_zipIdx]
    exact Nat.le_refl _)
/-- y = [elt for x in it if ..] -/
theorem setLcg (nm : Nm X P w K mg base k M GL BL) (nd : Nd X M) {N : List Str} {sc scope : Scope} (hN : X.N = N) (hsc : X.env.scope = sc) {x y : Str} (j : Nat) {elt it : Expr} {ifs : List Expr} {ds : List PyData} {tpos py spos : Pos} (acc : Nat → List PyData) (h0 : acc 0 = []) (hn : ds.length ≤ 90000) (hi : XI X cs (.Name x tpos) it ds)
    (hok : lcB N sc scope x j = true) (hu : Upd M cs y (.own (acc ds.length)) cs') (hyl : X.env.scope.names.lookup y = some .local) (hsw : swapsWith (.ListComp elt [⟨.Name x tpos, it, ifs, 0⟩] scope pos) (some (.Name y py)) spos.line X.env = pure true)
    (hs : ∀ i d, ds[i]? = some d → ∃ b, (∀ B : Bk, XTs (B.cx X scope) (cs.set j (.dat d)) ifs b) ∧ (b = true → ∃ y, (∀ B : Bk, XE (B.cx X scope) (cs.set j (.dat d)) elt (.dat y)) ∧ acc (i + 1) = acc i ++ [y]) ∧ (b = false → acc (i + 1) = acc i))
    (kk : Po.nx cs') (hfs : ∀ y, foldedSetIterable it X.env y = pure y := by intro _; rfl) : XS X cs (.Assign [.Name y py] (.ListComp elt [⟨.Name x tpos, it, ifs, 0⟩] scope pos) spos) Po := by
  subst hN
  subst hsc
  unfold lcB at hok
  rw [Bool.and_eq_true, Bool.and_eq_true] at hok
  obtain ⟨⟨h1, h2⟩, h3⟩ := hok
  have h2' : (relS scope X.env.scope).names.lookup x = some .local := by
    split at h2
    · assumption
    · cases h2
  obtain ⟨i, hi1, rfl⟩ := hu.ix
  exact x_setLc i acc hi (blkOk_by h1) hs kk nm.calm nm.nd (of_decide_eq_true h3) (fun B => .inl h2') h0 hn (fun B => .inr h2') (nm.pre i y hi1) hyl hsw hfs
theorem setLcm (nm : Nm X P w K mg base k M GL BL) (nd : Nd X M) {N : List Str} {sc scope : Scope} (hN : X.N = N) (hsc : X.env.scope = sc) {x y : Str} (j : Nat) {elt it : Expr} {ds : List PyData} {tpos py spos : Pos} (f : Nat → PyData → PyData) (hn : ds.length ≤ 90000) (hi : XI X cs (.Name x tpos) it ds)
    (hok : lcB N sc scope x j = true) (hu : Upd M cs y (.own (ds.zipIdx.map fun p => f p.2 p.1)) cs') (hyl : X.env.scope.names.lookup y = some .local) (hsw : swapsWith (.ListComp elt [⟨.Name x tpos, it, [], 0⟩] scope pos) (some (.Name y py)) spos.line X.env = pure true)
    (hs : ∀ i d, ds[i]? = some d → ∀ B : Bk, XE (B.cx X scope) (cs.set j (.dat d)) elt (.dat (f i d)))
    (kk : Po.nx cs') (hfs : ∀ y, foldedSetIterable it X.env y = pure y := by intro _; rfl) : XS X cs (.Assign [.Name y py] (.ListComp elt [⟨.Name x tpos, it, [], 0⟩] scope pos) spos) Po := by
  have e : ((ds.zipIdx.take ds.length).map fun p => f p.2 p.1) = ds.zipIdx.map fun p => f p.2 p.1 := by
    rw [List.take_of_length_le]
    rw [List.length_zipIdx]
    exact Nat.le_refl _
  exact setLcg nm nd hN hsc j (fun i => (ds.zipIdx.take i).map fun p => f p.2 p.1) rfl hn hi hok (by rw [e]; exact hu) hyl hsw (fun i d hd => ⟨true, fun _ => xts_nil, fun _ => ⟨_, hs i d hd, acc_map hd⟩, fun z => by cases z⟩) kk hfs
end
end Fw

set_option maxRecDepth 100000
set_option maxHeartbeats 4000000
namespace Fw
open PySem PySem.Spec PyProof.Rows L2
open Evl (Ex)
theorem Env.seal {K : PySem.W.Frag} {G0 H0 G H : Hp} {σ : L2.St} {cs : List Cell} (e : Env K G0 H0 G H σ cs) {i : Nat} {ds : List PyData} (hi : cs[i]? = some (.own ds)) : ∃ G', Ex G G' ∧ Env K G0 H0 G' H σ (cs.set i (.dat (.list ds))) := by
  obtain ⟨v, hv, p, ts, rfl, h0, h1, h2, h3⟩ := e.ok i _ hi (fun z => by cases z)
  have ex : Ex G (upd G p (.lst ts)) := Evl.Ex.new h1
  refine ⟨upd G p (.lst ts), ex, ⟨e.ext.eg.trans ex, e.ext.eh, fun a u ha => ?_, fun a g g' => ?_⟩, fun j c hj n => ?_, fun j k c0 c1 r hne hj hk o0 o1 hs => ?_, by rw [List.length_set, e.len]⟩
  · by_cases c : a = p
    · subst c
      rw [upd_same] at ha
      rw [h2, ha]
    · rw [upd_ne c] at ha
      exact e.gh a u ha
  · by_cases c : a = p
    · subst c
      exact h0
    · rw [upd_ne c] at g'
      exact e.ext.nw a g g'
  · rw [List.getElem?_set] at hj
    split at hj
    · rename_i hij
      subst hij
      split at hj
      · cases hj
        exact ⟨_, hv, .lst upd_same (dpa_mono ex _ _ h3)⟩
      · cases hj
    · rename_i hij
      obtain ⟨w, hw, r⟩ := e.ok j c hj n
      refine ⟨w, hw, ?_⟩
      cases c with
      | un => trivial
      | rng n =>
        obtain ⟨q, e1, r⟩ := r
        exact ⟨q, e1, ex _ _ r⟩
      | scr ns =>
        obtain ⟨q, e1, r⟩ := r
        exact ⟨q, e1, Evl.ex_l ex r⟩
      | ldc kvs =>
        obtain ⟨q, hs, e1, r1, r2⟩ := r
        exact ⟨q, hs, e1, Evl.ex_rd ex r1, kv_mono ex r2⟩
      | dat d => exact dp_mono ex _ _ r
      | dic kvs =>
        obtain ⟨q, hs, e1, r1, r2⟩ := r
        exact ⟨q, hs, e1, ex _ _ r1, kv_mono ex r2⟩
      | own es =>
        obtain ⟨q, us, e1, g0, g1, g2, g3⟩ := r
        subst e1
        have : q ≠ p := fun z => by
          subst z
          exact e.ap i j _ _ q hij hi hj rfl rfl hv hw
        exact ⟨q, us, rfl, g0, by rw [upd_ne this]; exact g1, g2, dpa_mono ex _ _ g3⟩
      | odi es =>
        obtain ⟨q, us, e1, g0, g1, g2, g3⟩ := r
        subst e1
        have : q ≠ p := fun z => by
          subst z
          exact e.ap i j _ _ q hij hi hj rfl rfl hv hw
        exact ⟨q, us, rfl, g0, by rw [upd_ne this]; exact g1, g2, kv_mono ex g3⟩
  · rw [List.getElem?_set] at hj hk
    split at hj
    · split at hj
      · cases hj
        cases o0
      · cases hj
    · split at hk
      · split at hk
        · cases hk
          cases o1
        · cases hk
      · exact e.ap j k c0 c1 r hne hj hk o0 o1 hs
section
variable {X : Cx} {P : Program} {w : World} {K : PySem.W.Frag} {mg : Str → Option Value} {base : Heap} {k : Nat} {M : List (Option Str)} {GL BL : List Str} {cs cs' : List Cell} {pos p pos' : Pos} {Po : Po}
/-- the rest is shown once, from a word between -/
theorem xs_cut {st : Stmt} {rest : List Stmt} (Mid : List Cell → Prop) (h : XS X cs st { Po with nx := Mid }) (k : ∀ cs', Mid cs' → XSs X cs' rest Po) : XSs X cs (st :: rest) Po :=
  xs_cons (h.imp (fun c m => k c m) (fun _ z => z) (fun _ z => z) (fun _ z => z))
theorem xt_orT {a c : Expr} {rest : List Expr} (h : XT X cs a true) : XT X cs (.BoolOp .Or (a :: c :: rest) pos) true := xt_pw ((xw_or (y := true) h (fun z => by cases z)))
theorem xt_andF {a c : Expr} {rest : List Expr} (h : XT X cs a false) : XT X cs (.BoolOp .And (a :: c :: rest) pos) false := xt_pw ((xw_and (y := false) h (fun z => by cases z)))
theorem xe_andF {a c : Expr} {rest : List Expr} (h : XE X cs a (.dat (.bool false))) : XE X cs (.BoolOp .And (a :: c :: rest) pos) (.dat (.bool false)) := xe_and (y := false) h (fun z => by cases z)
/-- what is one's own is frozen from here on -/
theorem xs_seal (nm : Nm X P w K mg base k M GL BL) {x : Str} {ds : List PyData} {sts : List Stmt} (h : Sel M cs x (.own ds)) (hu : Upd M cs x (.dat (.list ds)) cs') (kk : XSs X cs' sts Po) : XSs X cs sts Po := .mk fun en D r => by
  obtain ⟨i, h1, h2⟩ := h.ix
  obtain ⟨i', h1', rfl⟩ := hu.ix
  have : i = i' := nodup_ix nm.nd (nm.pre i x h1) (nm.pre i' x h1')
  subst this
  obtain ⟨G', ex, en'⟩ := en.seal h2
  exact kk en' (r.mono ex)
/-- a store whose value is told by a promise -/
theorem setR (nm : Nm X P w K mg base k M GL BL) (nd : Nd X M) {x : Str} {e : Expr} {R : Cell → Prop} {cs0 : List Cell} (he : XEP X cs e R) (hu : Upd M cs x .un cs0) (kk : ∀ c, R c → ∃ cs', Upd M cs x c cs' ∧ Po.nx cs') (hs : swapsWith e (some (.Name x pos')) pos.line X.env = pure false := by rfl) : XS X cs (.Assign [.Name x pos'] e pos) Po := by
  obtain ⟨i, h1, _⟩ := hu.ix
  have hm := List.mem_of_getElem? h1
  refine x_setP i he (nm.pre i x h1) (nd.loc x hm).1 nm.nd (fun c hc => ?_) hs (nd.loc x hm).2
  obtain ⟨cs', hu', hk⟩ := kk c hc
  obtain ⟨i', h1', e'⟩ := hu'.ix
  have : i = i' := nodup_ix nm.nd (nm.pre i x h1) (nm.pre i' x h1')
  subst this
  rw [← e']
  exact hk
theorem xep_fr {e : Expr} {R : Cell → Prop} (he : XEP X cs e R) (n : ∀ c, R c → c ≠ .un) : XEP X cs e (fun c => ∃ c', R c' ∧ c = c'.fr) := .mk fun en Q q => he en fun v G' H' c pc x r => by
  obtain ⟨G2, x2, _, r2⟩ := r.seal x (n c pc)
  exact q v G2 H' _ ⟨c, pc, rfl⟩ x2 r2.rok
/-- .. and frozen -/
theorem setF (nm : Nm X P w K mg base k M GL BL) (nd : Nd X M) {x : Str} {e : Expr} {R : Cell → Prop} {cs0 : List Cell} (he : XEP X cs e R) (hu : Upd M cs x .un cs0) (n : ∀ c, R c → c ≠ .un) (kk : ∀ c, R c → ∃ cs', Upd M cs x c.fr cs' ∧ Po.nx cs') (hs : swapsWith e (some (.Name x pos')) pos.line X.env = pure false := by rfl) : XS X cs (.Assign [.Name x pos'] e pos) Po :=
  setR nm nd (xep_fr he n) hu (fun _ ⟨c', h, e⟩ => by
    subst e
    exact kk c' h) hs
/-! the script -/
theorem xe_scr {e : Expr} {ns : List Int} (h : XE X cs e (.dat (.list (ns.map .int)))) : XE X cs e (.scr ns) := .mk fun en Q q => h en fun v G' H' x r => q v G' H' x (by
  cases r with
  | @lst a xs _ hs ha =>
    have e := dpa_ints' ha
    subst e
    exact ⟨a, rfl, SqL.of hs⟩)
theorem xe_lenScr (nm : Nm X P w K mg base k M GL BL) {a : Expr} {ns : List Int} (hg : Has GL "len") (hb : Has BL "len") (h : XE X cs a (.scr ns)) (he : starEach [a] X.env = (false, eval a X.env) :: starEach [] X.env := by rfl) (hpl : (backTo pos (starEach [] X.env)).any (·.1) = false := by rfl) :
    XE X cs (.Call (.Name "len" p) [a] [] pos) (.dat (.int ns.length)) := .mk fun en Q q =>
  ⟨_, pe_callB call_len_seq (nm.gl _ hg.mem).1 (by rw [nm.hmg]; exact nm.bl _ hb.mem) bb_len (pa_cons pe_v pa_nil he) (by decide) (by decide) he hpl, h en fun v G' H' x r => by
    obtain ⟨a, rfl, hs⟩ := r
    refine ⟨a, _, rfl, .inl (Evl.ex_l x.gh hs), ?_⟩
    rw [List.length_map]
    exact q _ G' H' x (.int _)⟩
theorem xe_ixScr {a b : Expr} {ns : List Int} {i v : Int} (h : XE X cs a (.scr ns)) (hb : XE X cs b (.dat (.int i))) (ha : atI ns i = some v) (hs : PlainIx b := by exact fun _ _ => rfl) : XE X cs (.Subscript a b pos) (.dat (.int v)) := .mk fun en Q q =>
  ⟨_, pe_ix ix_list pe_v pe_v hs, h en fun u G' H' x r => hb (en.step x) fun y G2 H2 x2 r2 => by
    obtain ⟨a, rfl, hs⟩ := r
    cases r2
    refine ⟨a, _, i, .int v, rfl, rfl, Evl.ex_l (x.trans x2).gh (Evl.ex_l x2.eg hs), ?_, q _ G2 H2 (x.trans x2) (.int v)⟩
    unfold atI at ha ⊢
    rw [List.length_map]
    cases e : ixN ns.length i with
    | none => rw [e] at ha; cases ha
    | some j =>
      rw [e] at ha
      show (ns.map V.int)[j]? = some (.int v)
      rw [List.getElem?_map, show ns[j]? = some v from ha]
      rfl⟩
/-! a list of one's own is read -/
theorem xe_ixOwn (nm : Nm X P w K mg base k M GL BL) {x : Str} {b : Expr} {ds : List PyData} {i : Int} {d : PyData} (h : Sel M cs x (.own ds)) (hb : XE X cs b (.dat (.int i))) (ha : atI ds i = some d) (hs : PlainIx b := by exact fun _ _ => rfl) : XE X cs (.Subscript (.Name x p) b pos) (.dat d) := .mk fun en Q q => by
  obtain ⟨j, h1, h2⟩ := h.ix
  have hm := List.mem_of_getElem? h1
  obtain ⟨v, hv, a, ts, rfl, g0, g1, g2, g3⟩ := en.ok j _ h2 (fun z => by cases z)
  refine ⟨_, pe_ix ix_list (pe_var (nm.pre j x h1) (nm.vis x hm) (nm.dbg x hm).1 (nm.dbg x hm).2) pe_v hs, _, hv, hb en fun y G2 H2 x2 r2 => ?_⟩
  cases r2
  obtain ⟨l, e1, e2⟩ : ∃ l, ixN ds.length i = some l ∧ ds[l]? = some d := by
    unfold atI at ha
    cases q : ixN ds.length i with
    | none => rw [q] at ha; cases ha
    | some l => rw [q] at ha; exact ⟨l, rfl, ha⟩
  obtain ⟨u, h3, h4⟩ := dpa_get g3 e2
  exact ⟨a, ts, i, u, rfl, rfl, SqL.of (x2.eh _ _ g2), by unfold atI; rw [dpa_len g3, e1]; exact h3, q u _ _ x2 (dp_mono x2.eg _ _ h4)⟩
theorem xe_listOwn (nm : Nm X P w K mg base k M GL BL) {x : Str} {ds : List PyData} (hg : Has GL "list") (hb : Has BL "list") (h : Sel M cs x (.own ds)) (he : starEach [.Name x p] X.env = (false, eval (.Name x p) X.env) :: starEach [] X.env := by rfl) (hpl : (backTo pos (starEach [] X.env)).any (·.1) = false := by rfl) :
    XE X cs (.Call (.Name "list" pos') [.Name x p] [] pos) (.own ds) := .mk fun en Q q => by
  obtain ⟨j, h1, h2⟩ := h.ix
  have hm := List.mem_of_getElem? h1
  obtain ⟨v, hv, a, ts, rfl, g0, g1, g2, g3⟩ := en.ok j _ h2 (fun z => by cases z)
  refine ⟨_, pe_callTy call_list_of (nm.gl _ hg.mem).1 (by rw [nm.hmg]; exact nm.bl _ hb.mem) bb_list (pa_cons (pe_var (nm.pre j x h1) (nm.vis x hm) (nm.dbg x hm).1 (nm.dbg x hm).2) pa_nil he) (by decide) (by decide) he hpl, _, hv, a, ts, rfl, .inl (SqL.of g2), fun l hl => ?_⟩
  exact q _ _ _ (Ext.heap en.gh (Evl.Ex.new hl)) ⟨l, ts, rfl, hl, Evl.fresh_back en.gh hl, upd_same, g3⟩
/-! slices -/
def cutP (ds : List PyData) (lo hi : Option Int) : List PyData := (ds.drop (HT.sIx ds.length 0 lo)).take (HT.sIx ds.length ds.length hi - HT.sIx ds.length 0 lo)
theorem dpa_cut {G : Hp} {vs : List V} {ds : List PyData} {lo hi : Option Int} (h : DtA G vs ds) : DtA G (cutV vs lo hi) (cutP ds lo hi) := by
  unfold cutV cutP
  rw [dpa_len h]
  exact dpa_take _ (dpa_drop _ h)
def XO (X : Cx) (cs : List Cell) (o : Option Expr) (r : Option Int) : Prop := match o, r with
  | none, none => True
  | some e, some i => XE X cs e (.dat (.int i))
  | _, _ => False
theorem xe_slice {e : Expr} {ds : List PyData} {lo hi : Option Expr} {l h : Option Int} {p2 : Pos} (he : XE X cs e (.dat (.list ds))) (hl : XO X cs lo l) (hh : XO X cs hi h) : XE X cs (.Subscript e (.Slice lo hi none p2) pos) (.own (cutP ds l h)) := .mk fun {G0 H0 G H σ} en Q q => by
  have fin : ∀ G3 H3 (a : Addr) xs, Ext G H G3 H3 → G3 a = some (.lst xs) → DtA G3 xs ds → ∀ p, H3 p = none → Q (.ref p) (upd H3 p (.lst (cutV xs l h))) := fun G3 H3 a xs x3 hs ha p hp =>
    q _ G3 _ (x3.trans (Ext.heap x3.gh (Evl.Ex.new hp))) ⟨p, _, rfl, Evl.fresh_back x3.eh hp, Evl.fresh_back x3.gh hp, upd_same, dpa_cut ha⟩
  cases lo with
  | none =>
    cases l with
    | some _ => exact (show False from hl).elim
    | none =>
      cases hi with
      | none =>
        cases h with
        | some _ => exact (show False from hh).elim
        | none =>
          refine ⟨_, pe_slice sl_list pe_v po_none po_none, he en fun v G1 H1 x1 r1 => ?_⟩
          cases r1 with
          | @lst a xs _ hs ha => exact ⟨a, xs, rfl, SqL.of (x1.gh _ _ hs), fin G1 H1 a xs x1 hs ha⟩
      | some eh =>
        cases h with
        | none => exact (show False from hh).elim
        | some ih =>
          have hh : XE X cs eh (.dat (.int ih)) := hh
          refine ⟨_, pe_slice sl_list pe_v po_none (po_some pe_v), he en fun v G1 H1 x1 r1 => hh (en.step x1) fun u G2 H2 x2 r2 => ?_⟩
          cases r2
          cases r1 with
          | @lst a xs _ hs ha => exact ⟨ih, rfl, a, xs, rfl, SqL.of (x2.gh _ _ (x2.eg _ _ hs)), fin G2 H2 a xs (x1.trans x2) (x2.eg _ _ hs) (dpa_mono x2.eg _ _ ha)⟩
  | some el =>
    cases l with
    | none => exact (show False from hl).elim
    | some il =>
      have hl : XE X cs el (.dat (.int il)) := hl
      cases hi with
      | none =>
        cases h with
        | some _ => exact (show False from hh).elim
        | none =>
          refine ⟨_, pe_slice sl_list pe_v (po_some pe_v) po_none, he en fun v G1 H1 x1 r1 => hl (en.step x1) fun u G2 H2 x2 r2 => ?_⟩
          cases r2
          cases r1 with
          | @lst a xs _ hs ha => exact ⟨il, rfl, a, xs, rfl, SqL.of (x2.gh _ _ (x2.eg _ _ hs)), fin G2 H2 a xs (x1.trans x2) (x2.eg _ _ hs) (dpa_mono x2.eg _ _ ha)⟩
      | some eh =>
        cases h with
        | none => exact (show False from hh).elim
        | some ih =>
          have hh : XE X cs eh (.dat (.int ih)) := hh
          refine ⟨_, pe_slice sl_list pe_v (po_some pe_v) (po_some pe_v), he en fun v G1 H1 x1 r1 => hl (en.step x1) fun u G2 H2 x2 r2 => ?_⟩
          cases r2
          refine ⟨il, rfl, hh ((en.step x1).step x2) fun u3 G3 H3 x3 r3 => ?_⟩
          cases r3
          cases r1 with
          | @lst a xs _ hs ha => exact ⟨ih, rfl, a, xs, rfl, SqL.of (x3.gh _ _ (x3.eg _ _ (x2.eg _ _ hs))), fin G3 H3 a xs ((x1.trans x2).trans x3) (x3.eg _ _ (x2.eg _ _ hs)) (dpa_mono (x2.eg.trans x3.eg) _ _ ha)⟩
end
theorem cutP_to {ds : List PyData} (n : Nat) : cutP ds none (some (n : Int)) = ds.take n := by
  unfold cutP
  rw [HT.sIx_none, show HT.sIx ds.length ds.length (some (n : Int)) = min n ds.length from HT.sIx_nat _ _ n, List.drop_zero, Nat.sub_zero, ← List.take_eq_take_min]
theorem cutP_from {ds : List PyData} (n : Nat) : cutP ds (some (n : Int)) none = ds.drop n := by
  unfold cutP
  rw [HT.sIx_none, show HT.sIx ds.length 0 (some (n : Int)) = min n ds.length from HT.sIx_nat _ _ n, List.take_of_length_le (by rw [List.length_drop]; omega)]
  by_cases h : n ≤ ds.length
  · rw [Nat.min_eq_left h]
  · rw [Nat.min_eq_right (by omega), List.drop_length, List.drop_of_length_le (by omega)]
theorem atI_nat' {α : Type} {l : List α} {n : Nat} {v : α} {i : Int} (e : i = (n : Int)) (h : l[n]? = some v) : atI l i = some v := by
  subst e
  exact atI_nat h
theorem atI_getD {l : List Int} {i : Int} (h0 : 0 ≤ i) (h : i < l.length) : atI l i = some (l.getD i.toNat 0) := by
  have hl : i.toNat < l.length := by omega
  refine atI_nat' (n := i.toNat) (by omega) ?_
  rw [List.getD_eq_getElem?_getD, List.getElem?_eq_getElem hl]
  rfl
end Fw

set_option maxRecDepth 100000
set_option maxHeartbeats 4000000
/-! dicts -/
namespace Fw
open PySem PySem.Spec PyProof.Rows L2
open Evl (Ex)
def lookD (kvs : List (Key × PyData)) (k : Key) : Option PyData := (kvs.find? fun kv => decide (kv.1 = k)).map (·.2)
def putD (kvs : List (Key × PyData)) (k : Key) (d : PyData) : List (Key × PyData) := if (kvs.any fun kv => decide (kv.1 = k)) = true then kvs.map (fun kv => if kv.1 = k then (kv.1, d) else kv) else kvs ++ [(k, d)]
def keyD : PyData → Option Key
  | .str z => some (.inr z)
  | .int i => some (.inl i)
  | _ => none
section
variable {G : Hp}
theorem kv_len {hs : List (Key × V)} {kvs : List (Key × PyData)} (h : KvOk G hs kvs) : hs.length = kvs.length := paired_len h
theorem kv_none {k : Key} : ∀ {hs : List (Key × V)} {kvs : List (Key × PyData)}, KvOk G hs kvs → lookD kvs k = none → valV hs k = none
  | _, _, .nil, _ => rfl
  | (a, v) :: hs, (b, d) :: kvs, .cons h t, e => by
    have hab : a = b := h.1
    subst hab
    unfold lookD at e
    unfold valV
    rw [List.find?_cons] at e ⊢
    by_cases hk : a = k
    · simp only [hk, decide_true] at e
      cases e
    · simp only [hk, decide_false] at e ⊢
      exact kv_none (k := k) t e
theorem kv_some {k : Key} {d : PyData} : ∀ {hs : List (Key × V)} {kvs : List (Key × PyData)}, KvOk G hs kvs → lookD kvs k = some d → ∃ v, valV hs k = some v ∧ Dt G v d
  | _, _, .nil, e => by cases e
  | (a, v) :: hs, (b, d') :: kvs, .cons h t, e => by
    have hab : a = b := h.1
    subst hab
    unfold lookD at e
    rw [List.find?_cons] at e
    by_cases hk : a = k
    · simp only [hk, decide_true] at e
      cases e
      refine ⟨v, ?_, h.2⟩
      unfold valV
      rw [List.find?_cons]
      simp only [hk, decide_true]
      rfl
    · simp only [hk, decide_false] at e
      obtain ⟨u, h1, h2⟩ := kv_some (k := k) t e
      refine ⟨u, ?_, h2⟩
      unfold valV
      rw [List.find?_cons]
      simp only [hk, decide_false]
      exact h1
theorem kv_any {k : Key} : ∀ {hs : List (Key × V)} {kvs : List (Key × PyData)}, KvOk G hs kvs → (hs.any fun kv => decide (kv.1 = k)) = (kvs.any fun kv => decide (kv.1 = k))
  | _, _, .nil => rfl
  | (a, v) :: hs, (b, d') :: kvs, .cons h t => by
    have hab : a = b := h.1
    subst hab
    rw [List.any_cons, List.any_cons, kv_any t]
theorem kv_map {k : Key} {v : V} {d : PyData} (r : Dt G v d) : ∀ {hs : List (Key × V)} {kvs : List (Key × PyData)}, KvOk G hs kvs → KvOk G (hs.map fun kv => if kv.1 = k then (kv.1, v) else kv) (kvs.map fun kv => if kv.1 = k then (kv.1, d) else kv)
  | _, _, .nil => .nil
  | (a, v') :: hs, (b, d') :: kvs, .cons h t => by
    have hab : a = b := h.1
    subst hab
    refine .cons ?_ (kv_map r t)
    by_cases hk : a = k
    · simp only [hk, if_true]
      exact ⟨trivial, r⟩
    · simp only [hk, if_false]
      exact ⟨trivial, h.2⟩
theorem kv_app : ∀ {hs hs' : List (Key × V)} {kvs kvs' : List (Key × PyData)}, KvOk G hs kvs → KvOk G hs' kvs' → KvOk G (hs ++ hs') (kvs ++ kvs')
  | _, _, _, _, .nil, h' => h'
  | _, _, _, _, .cons r t, h' => .cons r (kv_app t h')
theorem kv_put {k : Key} {v : V} {d : PyData} {hs : List (Key × V)} {kvs : List (Key × PyData)} (h : KvOk G hs kvs) (r : Dt G v d) : KvOk G (putK hs k v) (putD kvs k d) := by
  unfold putK putD
  rw [kv_any h]
  split
  · exact kv_map r h
  · exact kv_app h (.cons ⟨rfl, r⟩ .nil)
theorem key_of {v : V} {d : PyData} {k : Key} (r : Dt G v d) (h : keyD d = some k) : v = kV k := by
  cases r with
  | non => cases h
  | bl b => cases h
  | int i => cases h; rfl
  | str x => cases h; rfl
  | lst _ _ => cases h
  | tup _ _ => cases h
end
theorem look_put {kvs : List (Key × PyData)} {k j : Key} {d : PyData} : lookD (putD kvs k d) j = if j = k then some d else lookD kvs j := by
  unfold lookD putD
  by_cases ha : (kvs.any fun kv => decide (kv.1 = k)) = true
  · rw [if_pos ha]
    induction kvs with
    | nil => cases ha
    | cons p r ih =>
      rw [List.map_cons, List.find?_cons]
      by_cases hp : p.1 = k
      · simp only [hp, if_true]
        by_cases hj : j = k
        · subst hj
          simp
        · have hjk : ¬ k = j := fun e => hj e.symm
          simp only [hjk, decide_false, hj, if_false]
          rw [List.find?_cons]
          have : ¬ p.1 = j := by rw [hp]; exact hjk
          simp only [this, decide_false]
          by_cases hr : (r.any fun kv => decide (kv.1 = k)) = true
          · have := ih hr
            rw [if_neg hj] at this
            exact this
          · have e : (r.map fun kv => if kv.1 = k then (kv.1, d) else kv) = r := by
              conv => rhs; rw [← List.map_id r]
              refine List.map_congr_left fun q hq => ?_
              have : ¬ q.1 = k := fun e => hr (List.any_eq_true.mpr ⟨q, hq, decide_eq_true e⟩)
              rw [if_neg this]
              rfl
            rw [e]
      · simp only [hp, if_false]
        have hr : (r.any fun kv => decide (kv.1 = k)) = true := by
          rw [List.any_cons] at ha
          simpa [hp] using ha
        rw [List.find?_cons]
        by_cases hj : p.1 = j
        · have : ¬ j = k := fun e => hp (hj.trans e)
          simp [hj, this]
        · simp only [hj, decide_false]
          exact ih hr
  · rw [if_neg ha]
    have hn : (kvs.find? fun kv => decide (kv.1 = k)) = none := by
      rw [List.find?_eq_none]
      intro x hx h
      exact ha (List.any_eq_true.mpr ⟨x, hx, h⟩)
    rw [List.find?_append]
    by_cases hj : j = k
    · subst hj
      rw [hn]
      simp
    · have hjk : ¬ k = j := fun e => hj e.symm
      simp [hj, hjk]
theorem put_len {kvs : List (Key × PyData)} {k : Key} {d : PyData} : (putD kvs k d).length ≤ kvs.length + 1 := by
  unfold putD
  split <;> simp
theorem put_new {kvs : List (Key × PyData)} {k : Key} {d : PyData} (h : lookD kvs k = none) : putD kvs k d = kvs ++ [(k, d)] := by
  unfold putD
  rw [if_neg]
  intro ha
  obtain ⟨x, hx, e⟩ := List.any_eq_true.mp ha
  unfold lookD at h
  rw [Option.map_eq_none_iff, List.find?_eq_none] at h
  exact h x hx e

section
variable {X : Cx} {P : Program} {w : World} {K : PySem.W.Frag} {mg : Str → Option Value} {base : Heap} {k : Nat} {M : List (Option Str)} {GL BL : List Str} {cs cs' : List Cell} {pos p pos' : Pos} {Po : Po}
theorem xe_ldc {e : Expr} {kvs : List (Key × PyData)} (h : XE X cs e (.dic kvs)) : XE X cs e (.ldc kvs) := .mk fun en Q q => h en fun v G' H' x ⟨a, hs, e1, h1, h2⟩ => q v G' H' x ⟨a, hs, e1, Rd.of h1, h2⟩
theorem dget_of {H : Hp} {a : Addr} {hs : List (Key × V)} {kk : Key} {o : Option V} (h : Rd H a (.dK hs)) (e : valV hs kk = o) : DGet H a (kV kk) o := .inl ⟨hs, kk, h, rfl, e.symm⟩
theorem pc_in {i o : Expr} {kd : PyData} {kk : Key} {kvs : List (Key × PyData)} (hk : XE X cs i (.dat kd)) (hkd : keyD kd = some kk) (hd : XE X cs o (.ldc kvs)) {G0 H0 G H : Hp} {σ : L2.St} (en : Env X.K G0 H0 G H σ cs) {Q : VK} (q : ∀ G' H', Ext G H G' H' → Q (.bl (lookD kvs kk).isSome) H') :
    tDIn (vE X i) (vE X o) σ H Q := hk en fun y G1 H1 x1 r1 => hd (en.step x1) fun v G2 H2 x2 ⟨a, hs, e1, h1, h2⟩ => by
  subst e1
  have ek := key_of r1 hkd
  subst ek
  cases e : lookD kvs kk with
  | none =>
    refine ⟨a, none, rfl, dget_of (Evl.ex_rd x2.gh h1) (kv_none h2 e), ?_⟩
    have := q G2 H2 (x1.trans x2)
    rw [e] at this
    exact this
  | some d =>
    obtain ⟨u, hu, _⟩ := kv_some h2 e
    refine ⟨a, some u, rfl, dget_of (Evl.ex_rd x2.gh h1) hu, ?_⟩
    have := q G2 H2 (x1.trans x2)
    rw [e] at this
    exact this
theorem xt_din (nm : Nm X P w K mg base k M GL BL) {i o : Expr} {kd : PyData} {kk : Key} {kvs : List (Key × PyData)} (hk : XE X cs i (.dat kd)) (hd : XE X cs o (.ldc kvs)) (hkd : keyD kd = some kk) (hm : behindInMarks .In o = false := by rfl) : XT X cs (.Compare i [.In] [o] pos) (lookD kvs kk).isSome := .mk fun en Q q =>
  ⟨_, pt_cmp (pc_din nm.hu1 pe_v pe_v) hm, pc_in hk hkd hd en fun G' H' x => ⟨_, rfl, q H' x.eh⟩⟩
theorem xe_din (nm : Nm X P w K mg base k M GL BL) {i o : Expr} {kd : PyData} {kk : Key} {kvs : List (Key × PyData)} (hk : XE X cs i (.dat kd)) (hd : XE X cs o (.ldc kvs)) (hkd : keyD kd = some kk) (hm : behindInMarks .In o = false := by rfl) : XE X cs (.Compare i [.In] [o] pos) (.dat (.bool (lookD kvs kk).isSome)) := .mk fun en Q q =>
  ⟨_, pe_cmp (pc_din nm.hu1 pe_v pe_v) hm, pc_in hk hkd hd en fun G' H' x => q _ G' H' x (.bl _)⟩
theorem xt_dnin (nm : Nm X P w K mg base k M GL BL) {i o : Expr} {kd : PyData} {kk : Key} {kvs : List (Key × PyData)} (hk : XE X cs i (.dat kd)) (hd : XE X cs o (.ldc kvs)) (hkd : keyD kd = some kk) (hm : behindInMarks .NotIn o = false := by rfl) : XT X cs (.Compare i [.NotIn] [o] pos) (!(lookD kvs kk).isSome) := .mk fun en Q q =>
  ⟨_, pt_cmp (pc_dnotin nm.hu1 pe_v pe_v) hm, hk en fun y G1 H1 x1 r1 => hd (en.step x1) fun v G2 H2 x2 ⟨a, hs, e1, h1, h2⟩ => by
    subst e1
    have ek := key_of r1 hkd
    subst ek
    cases e : lookD kvs kk with
    | none =>
      refine ⟨a, none, rfl, dget_of (Evl.ex_rd x2.gh h1) (kv_none h2 e), _, rfl, ?_⟩
      have := q H2 (x1.trans x2).eh
      rw [e] at this
      exact this
    | some d =>
      obtain ⟨u, hu, _⟩ := kv_some h2 e
      refine ⟨a, some u, rfl, dget_of (Evl.ex_rd x2.gh h1) hu, _, rfl, ?_⟩
      have := q H2 (x1.trans x2).eh
      rw [e] at this
      exact this⟩
theorem xe_dg (nm : Nm X P w K mg base k M GL BL) {i o : Expr} {kd v : PyData} {kk : Key} {kvs : List (Key × PyData)} (hd : XE X cs o (.ldc kvs)) (hk : XE X cs i (.dat kd)) (hkd : keyD kd = some kk) (hv : lookD kvs kk = some v) (hs : NoSl i := by exact fun _ _ => rfl) : XE X cs (.Subscript o i pos) (.dat v) := .mk fun en Q q =>
  ⟨_, pe_dget nm.hu1 pe_v pe_v hs, hd en fun u G1 H1 x1 ⟨a, hs, e1, h1, h2⟩ => hk (en.step x1) fun y G2 H2 x2 r2 => by
    subst e1
    have ek := key_of r2 hkd
    subst ek
    obtain ⟨u, hu, ru⟩ := kv_some h2 hv
    exact ⟨a, u, rfl, dget_of (Evl.ex_rd x2.gh (Evl.ex_rd x2.eg h1)) hu, q u G2 H2 (x1.trans x2) (dp_mono x2.eg _ _ ru)⟩⟩
theorem xe_get1 (nm : Nm X P w K mg base k M GL BL) {i o : Expr} {kd : PyData} {kk : Key} {kvs : List (Key × PyData)} {ap : Pos} (hd : XE X cs o (.ldc kvs)) (hk : XE X cs i (.dat kd)) (hkd : keyD kd = some kk) (m : M1 X o "get" ap i pos := by exact ⟨rfl, rfl, rfl, rfl⟩) : XE X cs (.Call (.Attribute o "get" ap) [i] [] pos) (.dat ((lookD kvs kk).getD .none)) := .mk fun en Q q =>
  ⟨_, pe_dget1 nm.hu1 pe_v pe_v m, hd en fun u G1 H1 x1 ⟨a, hs, e1, h1, h2⟩ => ⟨a, e1, .inl ⟨hs, Evl.ex_rd x1.gh h1⟩, hk (en.step x1) fun y G2 H2 x2 r2 => by
    have ek := key_of r2 hkd
    subst ek
    cases e : lookD kvs kk with
    | none =>
      refine ⟨none, dget_of (Evl.ex_rd x2.gh (Evl.ex_rd x2.eg h1)) (kv_none h2 e), ?_⟩
      have := q .non G2 H2 (x1.trans x2)
      rw [e] at this
      exact this .non
    | some d =>
      obtain ⟨u, hu, ru⟩ := kv_some h2 e
      refine ⟨some u, dget_of (Evl.ex_rd x2.gh (Evl.ex_rd x2.eg h1)) hu, ?_⟩
      have := q u G2 H2 (x1.trans x2)
      rw [e] at this
      exact this (dp_mono x2.eg _ _ ru)⟩⟩
theorem xe_get2 (nm : Nm X P w K mg base k M GL BL) {i o f : Expr} {kd df : PyData} {kk : Key} {kvs : List (Key × PyData)} {ap : Pos} (hd : XE X cs o (.ldc kvs)) (hk : XE X cs i (.dat kd)) (hf : XE X cs f (.dat df)) (hkd : keyD kd = some kk) (m : M2 X o "get" ap i f pos := by exact ⟨rfl, rfl, rfl, rfl⟩) : XE X cs (.Call (.Attribute o "get" ap) [i, f] [] pos) (.dat ((lookD kvs kk).getD df)) := .mk fun en Q q =>
  ⟨_, pe_dget2 nm.hu1 pe_v pe_v pe_v m, hd en fun u G1 H1 x1 ⟨a, hs, e1, h1, h2⟩ => ⟨a, e1, .inl ⟨hs, Evl.ex_rd x1.gh h1⟩, hk (en.step x1) fun y G2 H2 x2 r2 => hf ((en.step x1).step x2) fun z G3 H3 x3 r3 => by
    have ek := key_of r2 hkd
    subst ek
    have hrd := Evl.ex_rd x3.gh (Evl.ex_rd x3.eg (Evl.ex_rd x2.eg h1))
    cases e : lookD kvs kk with
    | none =>
      refine ⟨none, dget_of hrd (kv_none h2 e), ?_⟩
      have := q z G3 H3 ((x1.trans x2).trans x3)
      rw [e] at this
      exact this r3
    | some d =>
      obtain ⟨u, hu, ru⟩ := kv_some h2 e
      refine ⟨some u, dget_of hrd hu, ?_⟩
      have := q u G3 H3 ((x1.trans x2).trans x3)
      rw [e] at this
      exact this (dp_mono (x2.eg.trans x3.eg) _ _ ru)⟩⟩
/-- an own dict read where it stands, as long as it is read -/
theorem xe_own2ldc (nm : Nm X P w K mg base k M GL BL) {x : Str} {kvs : List (Key × PyData)} (h : Sel M cs x (.odi kvs)) : ∀ {G0 H0 G H : Hp} {σ : L2.St}, Env X.K G0 H0 G H σ cs → ∃ i a hs, PE X (.Name x pos) (tVar i) ∧ σ[i]? = some (some (V.ref a)) ∧ H a = some (.dK hs) ∧ KvOk G hs kvs := fun en => by
  obtain ⟨i, h1, h2⟩ := h.ix
  have hm := List.mem_of_getElem? h1
  obtain ⟨v, hv, a, hs, rfl, g0, g1, g2, g3⟩ := en.ok i _ h2 (fun z => by cases z)
  exact ⟨i, a, hs, pe_var (nm.pre i x h1) (nm.vis x hm) (nm.dbg x hm).1 (nm.dbg x hm).2, hv, g2, g3⟩
theorem xe_dgOwn (nm : Nm X P w K mg base k M GL BL) {x : Str} {i : Expr} {kd v : PyData} {kk : Key} {kvs : List (Key × PyData)} (h : Sel M cs x (.odi kvs)) (hk : XE X cs i (.dat kd)) (hkd : keyD kd = some kk) (hv : lookD kvs kk = some v) (hs : NoSl i := by exact fun _ _ => rfl) : XE X cs (.Subscript (.Name x p) i pos) (.dat v) := .mk fun en Q q => by
  obtain ⟨j, a, hs', he, hσ, ha, hkv⟩ := xe_own2ldc (pos := p) nm h en
  refine ⟨_, pe_dget nm.hu1 he pe_v hs, _, hσ, hk en fun y G2 H2 x2 r2 => ?_⟩
  have ek := key_of r2 hkd
  subst ek
  obtain ⟨u, hu, ru⟩ := kv_some hkv hv
  exact ⟨a, u, rfl, dget_of (Rd.of (x2.eh _ _ ha)) hu, q u G2 H2 x2 (dp_mono x2.eg _ _ ru)⟩
theorem xe_get2Own (nm : Nm X P w K mg base k M GL BL) {x : Str} {i f : Expr} {kd df : PyData} {kk : Key} {kvs : List (Key × PyData)} {ap : Pos} (h : Sel M cs x (.odi kvs)) (hk : XE X cs i (.dat kd)) (hf : XE X cs f (.dat df)) (hkd : keyD kd = some kk) (m : M2 X (.Name x p) "get" ap i f pos := by exact ⟨rfl, rfl, rfl, rfl⟩) : XE X cs (.Call (.Attribute (.Name x p) "get" ap) [i, f] [] pos) (.dat ((lookD kvs kk).getD df)) := .mk fun en Q q => by
  obtain ⟨j, a, hs', he, hσ, ha, hkv⟩ := xe_own2ldc (pos := p) nm h en
  refine ⟨_, pe_dget2 nm.hu1 he pe_v pe_v m, _, hσ, a, rfl, .inl ⟨hs', Rd.of ha⟩, hk en fun y G2 H2 x2 r2 => hf (en.step x2) fun z G3 H3 x3 r3 => ?_⟩
  have ek := key_of r2 hkd
  subst ek
  have hrd := Rd.of (x3.eh _ _ (x2.eh _ _ ha))
  cases e : lookD kvs kk with
  | none =>
    refine ⟨none, dget_of hrd (kv_none hkv e), ?_⟩
    have := q z G3 H3 (x2.trans x3)
    rw [e] at this
    exact this r3
  | some d =>
    obtain ⟨u, hu, ru⟩ := kv_some hkv e
    refine ⟨some u, dget_of hrd hu, ?_⟩
    have := q u G3 H3 (x2.trans x3)
    rw [e] at this
    exact this (dp_mono (x2.eg.trans x3.eg) _ _ ru)
theorem xe_dnew : XE X cs (.Dict [] [] pos) (.odi []) := .mk fun en Q q => ⟨_, pe_dnewK, fun a ha => q _ _ _ (Ext.heap en.gh (Evl.Ex.new ha)) ⟨a, [], rfl, ha, Evl.fresh_back en.gh ha, upd_same, .nil⟩⟩
theorem xe_disp1 {ke ve : Expr} {kd d : PyData} {kk : Key} (hk : XE X cs ke (.dat kd)) (hv : XE X cs ve (.dat d)) (hkd : keyD kd = some kk) : XE X cs (.Dict [some ke] [ve] pos) (.odi [(kk, d)]) := .mk fun en Q q =>
  ⟨_, pe_disp (pps_cons pe_v pe_v pps_nil) rfl rfl (fun z => by cases z) (Nat.le_of_ble_eq_true rfl), fun a ha => by
    have en1 := en.step (Ext.heap en.gh (Evl.Ex.new ha (o := .dK [])))
    have x0 := Ext.heap en.gh (Evl.Ex.new ha (o := .dK []))
    refine hk en1 fun y G1 H1 x1 r1 => hv (en1.step x1) fun z G2 H2 x2 r2 => ?_
    have ek := key_of r1 hkd
    subst ek
    have h2 : H2 a = some (.dK []) := x2.eh _ _ (x1.eh _ _ upd_same)
    have ga : G2 a = none := (x1.trans x2).apart (Evl.fresh_back en.gh ha) upd_same
    refine ⟨h2, [(kk, z)], rfl, Nat.le_of_ble_eq_true rfl, ?_⟩
    exact q _ G2 _ ((x0.trans (x1.trans x2)).mut ha ga) ⟨a, [(kk, z)], rfl, ha, ga, by rw [upd_same]; rfl, .cons ⟨rfl, r2⟩ .nil⟩⟩
theorem xe_dcopy (nm : Nm X P w K mg base k M GL BL) {o : Expr} {kvs : List (Key × PyData)} (hg : Has GL "dict") (hb : Has BL "dict") (hd : XE X cs o (.ldc kvs)) (he : starEach [o] X.env = (false, eval o X.env) :: starEach [] X.env := by rfl) (hpl : (backTo pos (starEach [] X.env)).any (·.1) = false := by rfl) : XE X cs (.Call (.Name "dict" p) [o] [] pos) (.odi kvs) := .mk fun en Q q =>
  ⟨_, pe_callTy call_dictD (nm.gl _ hg.mem).1 (by rw [nm.hmg]; exact nm.bl _ hb.mem) bb_dict (pa_cons pe_v pa_nil he) (by decide) (by decide) he hpl, hd en fun u G1 H1 x1 ⟨a, hs, e1, h1, h2⟩ => ⟨a, hs, by rw [e1], Evl.ex_rd x1.gh h1, fun b hb => q _ G1 _ (x1.trans (Ext.heap x1.gh (Evl.Ex.new hb))) ⟨b, hs, rfl, Evl.fresh_back x1.eh hb, Evl.fresh_back x1.gh hb, upd_same, h2⟩⟩⟩
theorem dput (nm : Nm X P w K mg base k M GL BL) {x : Str} {i value : Expr} {kd d : PyData} {kk : Key} {kvs : List (Key × PyData)} (h : Sel M cs x (.odi kvs)) (hv : XE X cs value (.dat d)) (hk : XE X cs i (.dat kd)) (hkd : keyD kd = some kk) (hu : Upd M cs x (.odi (putD kvs kk d)) cs') (hl : kvs.length < 100000) (kn : Po.nx cs')
    (hs : swapsWith value (some (.Subscript (.Name x p) i pos')) pos.line X.env = pure false := by rfl) : XS X cs (.Assign [.Subscript (.Name x p) i pos'] value pos) Po := .mk fun {G0 H0 G H σ} en D r => by
  obtain ⟨j, h1, h2⟩ := h.ix
  obtain ⟨j', h1', rfl⟩ := hu.ix
  have : j = j' := nodup_ix nm.nd (nm.pre j x h1) (nm.pre j' x h1')
  subst this
  have hm := List.mem_of_getElem? h1
  refine ⟨_, ps_dput nm.hu1 (pe_var (nm.pre j x h1) (nm.vis x hm) (nm.dbg x hm).1 (nm.dbg x hm).2) pe_v pe_v hs, hv en fun v G1 H1 x1 r1 => ?_⟩
  obtain ⟨u, hσ, a, hs', rfl, g0, g1, g2, g3⟩ := (en.step x1).ok j _ h2 (fun z => by cases z)
  refine ⟨_, hσ, hk (en.step x1) fun y G2 H2 x2 r2 => ?_⟩
  have ek := key_of r2 hkd
  subst ek
  have en2 := (en.step x1).step x2
  have kv2 := kv_mono x2.eg g3
  refine ⟨a, _, rfl, .inl ⟨hs', kk, x2.eh _ _ g2, rfl, by rw [kv_len kv2]; exact Evl.sz_lt hl, rfl⟩, ?_⟩
  exact r.nx _ _ _ _ kn (en2.mutD h2 hσ (kv_put kv2 (dp_mono x2.eg _ _ r1))) (x1.eg.trans x2.eg)
/-- a list as a test -/
theorem xt_truthL {e : Expr} {ds : List PyData} (h : XE X cs e (.dat (.list ds))) (he : ∀ whole, isTrue e X.env whole = (do let v ← whole; standAt e.pos; holding [v] (truthy v)) := by intro _; rfl) : XT X cs e (!ds.isEmpty) := .mk fun en Q q =>
  ⟨_, pt_truth pe_v he, h en fun v G' H' x r => by
    cases r with
    | @lst a xs _ hs ha =>
      refine ⟨_, .inl ⟨xs, SqL.of (x.gh _ _ hs), rfl⟩, ?_⟩
      have e : xs.isEmpty = ds.isEmpty := by
        have := dpa_len ha
        cases xs <;> cases ds <;> first | rfl | cases this
      rw [e]
      exact q H' x.eh⟩
end
end Fw

set_option maxRecDepth 100000
set_option maxHeartbeats 4000000
/-! a dict that is walked is locked for a while -/
namespace Fw
open PySem PySem.Spec PyProof.Rows L2
open Evl (Ex)
def lkf (d : Addr) (o : HO) (Hx : Hp) : Hp := fun a => if a = d then (Hx a).map (fun _ => o) else Hx a
theorem lkf_ne {d a : Addr} {o : HO} {Hx : Hp} (h : a ≠ d) : lkf d o Hx a = Hx a := by unfold lkf; rw [if_neg h]
theorem lkf_eq {d : Addr} {o : HO} {Hx : Hp} : lkf d o Hx d = (Hx d).map (fun _ => o) := by unfold lkf; rw [if_pos rfl]
theorem lkf_none {d a : Addr} {o : HO} {Hx : Hp} : lkf d o Hx a = none ↔ Hx a = none := by
  by_cases h : a = d
  · subst h
    rw [lkf_eq, Option.map_eq_none_iff]
  · rw [lkf_ne h]
theorem lkf_upd {d : Addr} {o u : HO} {Hx : Hp} (h : Hx d = some u) : upd Hx d o = lkf d o Hx := by
  funext a
  by_cases c : a = d
  · subst c
    rw [upd_same, lkf_eq, h]
    rfl
  · rw [upd_ne c, lkf_ne c]
theorem lkf_ex {d : Addr} {o : HO} {A B : Hp} (e : Ex A B) : Ex (lkf d o A) (lkf d o B) := fun a u h => by
  by_cases c : a = d
  · subst c
    rw [lkf_eq] at h ⊢
    obtain ⟨w, hw, rfl⟩ := Option.map_eq_some_iff.mp h
    rw [e _ _ hw]
    rfl
  · rw [lkf_ne c] at h ⊢
    exact e a u h
/-- no list, no tuple -/
def NoSeq (o : HO) : Prop := (∀ xs, o ≠ .lst xs) ∧ ∀ xs, o ≠ .tup xs
section
variable {G : Hp} {d : Addr} {o u : HO}
mutual
theorem dt_lk (hd : ∀ w, G d = some w → NoSeq w) : ∀ (x : PyData) (v : V), Dt G v x → Dt (lkf d o G) v x
  | .none, _, h => by cases h; exact .non
  | .bool b, _, h => by cases h; exact .bl b
  | .int i, _, h => by cases h; exact .int i
  | .str x, _, h => by cases h; exact .str x
  | .list ds, _, h => by
    cases h with
    | @lst a xs _ hs ha =>
      have : a ≠ d := fun z => by
        subst z
        exact (hd _ hs).1 xs rfl
      exact .lst (by rw [lkf_ne this]; exact hs) (dta_lk hd ds _ ha)
  | .tuple ds, _, h => by
    cases h with
    | @tup a xs _ hs ha =>
      have : a ≠ d := fun z => by
        subst z
        exact (hd _ hs).2 xs rfl
      exact .tup (by rw [lkf_ne this]; exact hs) (dta_lk hd ds _ ha)
  | .dict _, _, h => by cases h
theorem dta_lk (hd : ∀ w, G d = some w → NoSeq w) : ∀ (ds : List PyData) (vs : List V), DtA G vs ds → DtA (lkf d o G) vs ds
  | [], _, h => by cases h; exact .nil
  | x :: ds, _, h => by
    cases h with
    | cons h1 h2 => exact .cons (dt_lk hd x _ h1) (dta_lk hd ds _ h2)
end
theorem kv_lk (hd : ∀ w, G d = some w → NoSeq w) {hs : List (Key × V)} {kvs : List (Key × PyData)} (h : KvOk G hs kvs) : KvOk (lkf d o G) hs kvs := Paired.mapP h fun _ _ z => ⟨z.1, dt_lk hd _ _ z.2⟩
end
def Cell.lk : Cell → Cell
  | .dic kvs => .ldc kvs
  | c => c
theorem nd_frz {od : Obj} {hs : List (Key × V)} : NoSeq (.frz od (.dK hs)) := ⟨fun _ z => (by cases z), fun _ z => (by cases z)⟩
theorem nd_dK {hs : List (Key × V)} : NoSeq (.dK hs) := ⟨fun _ z => (by cases z), fun _ z => (by cases z)⟩
section
variable {K : PySem.W.Frag} {G0 H0 G H : Hp} {σ : L2.St} {cs : List Cell} {d : Addr} {hs : List (Key × V)} {od : Obj}
theorem sql_lk {ns : List V} {p : Addr} {o : HO} (hd : ∀ w, G d = some w → NoSeq w ∧ ∀ ob u, w = .frz ob u → NoSeq u) (h : SqL K G p ns) : SqL K (lkf d o G) p ns := by
  rcases h with (h | ⟨ob, h⟩) | h
  · have : p ≠ d := fun z => by
      subst z
      exact (hd _ h).1.1 ns rfl
    exact .inl (.inl (by rw [lkf_ne this]; exact h))
  · have : p ≠ d := fun z => by
      subst z
      exact ((hd _ h).2 ob _ rfl).1 ns rfl
    exact .inl (.inr ⟨ob, by rw [lkf_ne this]; exact h⟩)
  · exact .inr h
/-- a dict that is frozen is locked -/
theorem Env.lock (e : Env K G0 H0 G H σ cs) (hG : G d = some (.dK hs)) : Env K (lkf d (.frz od (.dK hs)) G0) (lkf d (.frz od (.dK hs)) H0) (lkf d (.frz od (.dK hs)) G) (lkf d (.frz od (.dK hs)) H) σ (cs.map Cell.lk) := by
  have hd : ∀ w, G d = some w → NoSeq w ∧ ∀ ob u, w = .frz ob u → NoSeq u := fun w hw => by
    rw [hG] at hw
    cases hw
    exact ⟨nd_dK, fun _ _ z => by cases z⟩
  have hd1 : ∀ w, G d = some w → NoSeq w := fun w hw => (hd w hw).1
  have own : ∀ p u, G p = none → H p = some u → p ≠ d := fun p u g _ z => by
    subst z
    rw [hG] at g
    cases g
  refine ⟨⟨lkf_ex e.ext.eg, lkf_ex e.ext.eh, lkf_ex e.ext.gh, fun a g g' => lkf_none.mpr (e.ext.nw a (lkf_none.mp g) fun z => g' (lkf_none.mpr z))⟩, fun i c hc n => ?_, fun i j c c' p hij hi hj ho ho' hσ => ?_, by rw [List.length_map]; exact e.len⟩
  · rw [List.getElem?_map] at hc
    obtain ⟨c0, hc0, rfl⟩ := Option.map_eq_some_iff.mp hc
    have n0 : c0 ≠ .un := fun z => by
      subst z
      exact n rfl
    obtain ⟨v, hv, r⟩ := e.ok i c0 hc0 n0
    refine ⟨v, hv, ?_⟩
    cases c0 with
    | un => trivial
    | scr ns =>
      obtain ⟨p, e1, r⟩ := r
      exact ⟨p, e1, sql_lk hd r⟩
    | rng n =>
      obtain ⟨p, e1, r⟩ := r
      have c : p ≠ d := fun z => by
        subst z
        rw [hG] at r
        cases r
      exact ⟨p, e1, by rw [lkf_ne c]; exact r⟩
    | ldc kvs =>
      obtain ⟨p, hs', e1, r1, r2⟩ := r
      refine ⟨p, hs', e1, ?_, kv_lk hd1 r2⟩
      by_cases c : p = d
      · subst c
        rcases r1 with r1 | ⟨ob, r1⟩
        · rw [hG] at r1
          cases r1
          exact .inr ⟨od, by rw [lkf_eq, hG]; rfl⟩
        · rw [hG] at r1
          cases r1
      · rcases r1 with r1 | ⟨ob, r1⟩
        · exact .inl (by rw [lkf_ne c]; exact r1)
        · exact .inr ⟨ob, by rw [lkf_ne c]; exact r1⟩
    | dat x => exact dt_lk hd1 _ _ r
    | dic kvs =>
      obtain ⟨p, hs', e1, r1, r2⟩ := r
      refine ⟨p, hs', e1, ?_, kv_lk hd1 r2⟩
      by_cases c : p = d
      · subst c
        rw [hG] at r1
        cases r1
        exact .inr ⟨od, by rw [lkf_eq, hG]; rfl⟩
      · exact .inl (by rw [lkf_ne c]; exact r1)
    | own ds =>
      obtain ⟨p, ts, e1, g0, g1, g2, g3⟩ := r
      exact ⟨p, ts, e1, lkf_none.mpr g0, lkf_none.mpr g1, by rw [lkf_ne (own p _ g1 g2)]; exact g2, dta_lk hd1 _ _ g3⟩
    | odi kvs =>
      obtain ⟨p, ts, e1, g0, g1, g2, g3⟩ := r
      exact ⟨p, ts, e1, lkf_none.mpr g0, lkf_none.mpr g1, by rw [lkf_ne (own p _ g1 g2)]; exact g2, kv_lk hd1 g3⟩
  · rw [List.getElem?_map] at hi hj
    obtain ⟨c0, hc0, rfl⟩ := Option.map_eq_some_iff.mp hi
    obtain ⟨c1, hc1, rfl⟩ := Option.map_eq_some_iff.mp hj
    exact e.ap i j c0 c1 p hij hc0 hc1 (by cases c0 <;> first | exact ho | cases ho) (by cases c1 <;> first | exact ho' | cases ho') hσ
/-- .. and set free again -/
theorem Ext.unlock {G' H' : Hp} (x0 : Ext G0 H0 G H) (hG : G d = some (.dK hs)) (e : Ext (lkf d (.frz od (.dK hs)) G0) (lkf d (.frz od (.dK hs)) H0) G' H') (hx : Ex (lkf d (.frz od (.dK hs)) G) G') : Ext G0 H0 (lkf d (.dK hs) G') (lkf d (.dK hs) H') ∧ Ex G (lkf d (.dK hs) G') := by
  have hG' : G' d = some (.frz od (.dK hs)) := hx _ _ (by rw [lkf_eq, hG]; rfl)
  have back : ∀ A : Hp, (∀ w, A d = some w → w = .dK hs) → ∀ B, Ex (lkf d (.frz od (.dK hs)) A) B → Ex A (lkf d (.dK hs) B) := fun A hA B hB a u h => by
    by_cases c : a = d
    · subst c
      rw [lkf_eq, hB _ _ (by rw [lkf_eq, h]; rfl)]
      rw [hA _ h]
      rfl
    · rw [lkf_ne c]
      exact hB a u (by rw [lkf_ne c]; exact h)
  have hH : H d = some (.dK hs) := x0.gh _ _ hG
  have g0d : ∀ w, G0 d = some w → w = .dK hs := fun w hw => by
    have := x0.eg _ _ hw
    rw [hG] at this
    exact (Option.some.inj this).symm
  have h0d : ∀ w, H0 d = some w → w = .dK hs := fun w hw => by
    have := x0.eh _ _ hw
    rw [hH] at this
    exact (Option.some.inj this).symm
  exact ⟨⟨back G0 g0d _ e.eg, back H0 h0d _ e.eh, lkf_ex e.gh, fun a g g' => lkf_none.mp (e.nw a (lkf_none.mpr g) fun z => g' (lkf_none.mpr z))⟩, back G (fun w hw => by rw [hG] at hw; exact (Option.some.inj hw).symm) _ hx⟩
theorem ROk.unlock {G' H' : Hp} {v : V} (hG' : G' d = some (.frz od (.dK hs))) : ∀ {c : Cell}, ROk K (lkf d (.frz od (.dK hs)) H0) G' H' v c → ROk K H0 (lkf d (.dK hs) G') (lkf d (.dK hs) H') v c := fun {c} r => by
  have hd : ∀ w, G' d = some w → NoSeq w ∧ ∀ ob u, w = .frz ob u → NoSeq u := fun w hw => by
    rw [hG'] at hw
    cases hw
    exact ⟨nd_frz, fun _ _ z => by cases z; exact nd_dK⟩
  have hd1 : ∀ w, G' d = some w → NoSeq w := fun w hw => (hd w hw).1
  have own : ∀ p u, G' p = none → H' p = some u → p ≠ d := fun p u g _ z => by
    subst z
    rw [hG'] at g
    cases g
  cases c with
  | un => trivial
  | scr ns =>
    obtain ⟨p, e1, r⟩ := r
    exact ⟨p, e1, sql_lk hd r⟩
  | rng n =>
    obtain ⟨p, e1, r⟩ := r
    have c : p ≠ d := fun z => by
      subst z
      rw [hG'] at r
      cases r
    exact ⟨p, e1, by rw [lkf_ne c]; exact r⟩
  | ldc kvs =>
    obtain ⟨p, hs', e1, r1, r2⟩ := r
    refine ⟨p, hs', e1, ?_, kv_lk hd1 r2⟩
    by_cases c : p = d
    · subst c
      rcases r1 with r1 | ⟨ob, r1⟩
      · rw [hG'] at r1
        cases r1
      · rw [hG'] at r1
        cases r1
        exact .inl (by rw [lkf_eq, hG']; rfl)
    · rcases r1 with r1 | ⟨ob, r1⟩
      · exact .inl (by rw [lkf_ne c]; exact r1)
      · exact .inr ⟨ob, by rw [lkf_ne c]; exact r1⟩
  | dat x => exact dt_lk hd1 _ _ r
  | dic kvs =>
    obtain ⟨p, hs', e1, r1, r2⟩ := r
    have c : p ≠ d := fun z => by
      subst z
      rw [hG'] at r1
      cases r1
    exact ⟨p, hs', e1, by rw [lkf_ne c]; exact r1, kv_lk hd1 r2⟩
  | own ds =>
    obtain ⟨p, ts, e1, g0, g1, g2, g3⟩ := r
    exact ⟨p, ts, e1, lkf_none.mp g0, lkf_none.mpr g1, by rw [lkf_ne (own p _ g1 g2)]; exact g2, dta_lk hd1 _ _ g3⟩
  | odi kvs =>
    obtain ⟨p, ts, e1, g0, g1, g2, g3⟩ := r
    exact ⟨p, ts, e1, lkf_none.mp g0, lkf_none.mpr g1, by rw [lkf_ne (own p _ g1 g2)]; exact g2, kv_lk hd1 g3⟩
theorem Env.unlock {G' H' : Hp} {σ' : L2.St} {cs' : List Cell} (x0 : Ext G0 H0 G H) (hG : G d = some (.dK hs)) (e : Env K (lkf d (.frz od (.dK hs)) G0) (lkf d (.frz od (.dK hs)) H0) G' H' σ' cs') (hx : Ex (lkf d (.frz od (.dK hs)) G) G') : Env K G0 H0 (lkf d (.dK hs) G') (lkf d (.dK hs) H') σ' cs' ∧ Ex G (lkf d (.dK hs) G') := by
  have hG' : G' d = some (.frz od (.dK hs)) := hx _ _ (by rw [lkf_eq, hG]; rfl)
  obtain ⟨u1, u2⟩ := Ext.unlock x0 hG e.ext hx
  refine ⟨⟨u1, fun i c hc n => ?_, e.ap, e.len⟩, u2⟩
  obtain ⟨v, hv, r⟩ := e.ok i c hc n
  exact ⟨v, hv, ROk.unlock hG' r⟩
end
end Fw

set_option maxRecDepth 100000
set_option maxHeartbeats 4000000
/-! for k in d; {k: e for k in d} -/
namespace Fw
open PySem PySem.Spec PyProof.Rows L2
open Evl (Ex)
def keyP : Key → PyData
  | .inl i => .int i
  | .inr z => .str z
def keysD (kvs : List (Key × PyData)) : List PyData := kvs.map fun kv => keyP kv.1
theorem dt_key {G : Hp} : ∀ k : Key, Dt G (kV k) (keyP k)
  | .inl i => .int i
  | .inr z => .str z
theorem kv_at {G : Hp} {k : Key} {v : V} : ∀ {hs : List (Key × V)} {kvs : List (Key × PyData)} {i : Nat}, KvOk G hs kvs → hs[i]? = some (k, v) → ∃ d, kvs[i]? = some (k, d) ∧ Dt G v d
  | _ :: _, (b, d) :: _, 0, .cons h _, e => by
    cases Option.some.inj e
    have : k = b := h.1
    subst this
    exact ⟨d, rfl, h.2⟩
  | _ :: _, _ :: _, i + 1, .cons _ t, e => kv_at (i := i) t e
theorem walkd_keys {K : PySem.W.Frag} {G : Hp} {d : Addr} {o : Obj} {hs : List (Key × V)} {kvs : List (Key × PyData)} (hG : G d = some (.frz o (.dK hs))) (h : KvOk G hs kvs) : WalkD G (Itk d o hs) (keysD kvs) :=
  ⟨_, (by unfold keysD; rw [List.length_map, ← kv_len h]; exact walk_keys.mono (fun H e => e _ _ hG) (fun _ _ _ _ _ _ y => y)), fun i H x H2 hi e y G1 e1 e2 => by
    obtain ⟨rfl, k, v, hk, rfl⟩ := y
    obtain ⟨kd, hkd, r⟩ := kv_at h hk
    exact ⟨G1, keyP k, Ext.refl e2, by unfold keysD; rw [List.getElem?_map, hkd]; rfl, dt_key k⟩⟩
section
variable {X : Cx} {cs : List Cell} {pos p : Pos} {P : Po}
theorem env_lk {K : PySem.W.Frag} {G0 H0 G H : Hp} {σ : L2.St} (e : Env K G0 H0 G H σ cs) : Env K G0 H0 G H σ (cs.map Cell.lk) := by
  refine ⟨e.ext, fun i c hc n => ?_, fun i j c c' p hij hi hj ho ho' hσ => ?_, by rw [List.length_map]; exact e.len⟩
  · rw [List.getElem?_map] at hc
    obtain ⟨c0, hc0, rfl⟩ := Option.map_eq_some_iff.mp hc
    have n0 : c0 ≠ .un := fun z => by
      subst z
      exact n rfl
    obtain ⟨v, hv, r⟩ := e.ok i c0 hc0 n0
    refine ⟨v, hv, ?_⟩
    cases c0 with
    | dic kvs =>
      obtain ⟨p, hs', e1, r1, r2⟩ := r
      exact ⟨p, hs', e1, Rd.of r1, r2⟩
    | _ => exact r
  · rw [List.getElem?_map] at hi hj
    obtain ⟨c0, hc0, rfl⟩ := Option.map_eq_some_iff.mp hi
    obtain ⟨c1, hc1, rfl⟩ := Option.map_eq_some_iff.mp hj
    exact e.ap i j c0 c1 p hij hc0 hc1 (by cases c0 <;> first | exact ho | cases ho) (by cases c1 <;> first | exact ho' | cases ho') hσ
theorem lk_lk : (cs.map Cell.lk).map Cell.lk = cs.map Cell.lk := by
  rw [List.map_map]
  congr 1
  funext c
  cases c <;> rfl
/-- the walk, the dict being frozen -/
theorem vi_keys {tg : Expr} {x : Str} {kvs : List (Key × PyData)} {hs : List (Key × V)} {d : Addr} {o : Obj} {i : Nat} {G0 H0 G H : Hp} {σ : L2.St} (en : Env X.K G0 H0 G H σ cs) (hN : X.N[i]? = some x) (hv : Vis X.env.scope x) (hd : (x == ("__debug__" : Str)) = false) (hcd : (x == ("__classdict__" : Str)) = false)
    (hσ : σ[i]? = some (some (.ref d))) (hG : G d = some (.frz o (.dK hs))) (h : KvOk G hs kvs) {R : It → Hp → Prop} (q : ∀ J, WalkD G J (keysD kvs) → R J H) : vI X tg (.Name x p) σ H R :=
  ⟨_, pi_keys (pe_var hN hv hd hcd), ⟨_, hσ, d, o, rfl, .inl ⟨hs, en.gh _ _ hG, q _ (walkd_keys (K := X.K) hG h)⟩⟩⟩
/-- for k in d -/
theorem x_forKeys {tg : Expr} {x : Str} {body : List Stmt} {kvs : List (Key × PyData)} (i : Nat) (I : Nat → List Cell → Prop) (hp : PassesOwn (model X.prog X.w) X.A X.env X.xe) (hc : X.calm = true)
    (hN : X.N[i]? = some x) (hv : Vis X.env.scope x) (hd : (x == ("__debug__" : Str)) = false) (hcd : (x == ("__classdict__" : Str)) = false) (hs : (cs.map Cell.lk)[i]? = some (.ldc kvs)) (h0 : I 0 (cs.map Cell.lk))
    (hb : ∀ j d cs', (keysD kvs)[j]? = some d → I j cs' → XG X cs' tg d fun cs2 => XSs X cs2 body { nx := I (j + 1), rt := P.rt, bk := P.nx, ct := I (j + 1), ex := P.ex, E := P.E }) (hn : ∀ cs', I kvs.length cs' → P.nx cs') (hx : ∀ c, ¬ P.ex c) : XS X cs (.For tg (.Name x p) body [] pos) P := .mk fun {G0 H0 G H σ} en0 D r => by
  have en := env_lk en0
  obtain ⟨v, hv1, d, hs', rfl, rd, kv⟩ := en.ok i _ hs (by intro z; cases z)
  have core : ∀ {G0 H0 G H : Hp} {D : Ends} {o : Obj}, Env X.K G0 H0 G H σ (cs.map Cell.lk) → G d = some (.frz o (.dK hs')) → KvOk G hs' kvs → Run X.K G0 H0 G P D → tFor (vI X tg (.Name x p)) (vG X tg) (vSs X body) D σ H := fun {G0 H0 G H D o} en hG kv r =>
    vi_keys en hN hv hd hcd hv1 hG kv fun J ⟨Y, w, y⟩ => for_it w (fun i σ' H' => ∃ G' cs', I i cs' ∧ Env X.K G0 H0 G' H' σ' cs' ∧ Ex G G') ⟨G, _, h0, en, Evl.Ex.refl _⟩
      (fun i σ' H' _ ⟨G', cs', _, e, k⟩ => k.trans e.gh)
      (fun i x σ' H' H2 hi' ⟨G', cs', p, e, k⟩ yy => by
        obtain ⟨G2, d, x2, hd', r2⟩ := y i H' x H2 hi' (k.trans e.gh) yy G' k e.gh
        refine hb i d cs' hd' p (e.step x2) r2 fun G3 H3 σ3 cs3 a b c => a b ⟨fun G4 H4 σ4 cs4 a4 b4 c4 => ?_, fun v4 G4 H4 c' a4 b4 c4 => r.rt v4 G4 H4 c' a4 b4 (((k.trans x2.eg).trans c).trans c4), fun G4 H4 σ4 cs4 a4 b4 c4 => ?_, fun G4 H4 σ4 cs4 a4 b4 c4 => ?_, fun cls σ4 G4 H4 a4 _ _ => absurd a4 (hx cls)⟩
        · exact ⟨G4, cs4, a4, b4, ((k.trans x2.eg).trans c).trans c4⟩
        · exact r.nx _ _ _ _ a4 b4 (((k.trans x2.eg).trans c).trans c4)
        · exact ⟨G4, cs4, a4, b4, ((k.trans x2.eg).trans c).trans c4⟩)
      (fun σ' H' ⟨G', cs', p, e, k⟩ => r.nx _ _ _ _ (hn cs' (by have e := p; unfold keysD at e; rw [List.length_map] at e; exact e)) e k)
  rcases rd with hG | ⟨o, hG⟩
  · refine ⟨_, ps_lock (ps_for hp hc pi_v pg_v pss_v (by intro _; rfl)), d, .dK hs', en.gh _ _ hG, trivial, fun od => ?_⟩
    have z := Env.lock (od := od) en hG
    rw [lk_lk] at z
    have zH : upd H d (.frz od (.dK hs')) = lkf d (.frz od (.dK hs')) H := lkf_upd (en.gh _ _ hG)
    rw [zH]
    have zG : lkf d (.frz od (.dK hs')) G d = some (.frz od (.dK hs')) := by rw [lkf_eq, hG]; rfl
    have nq : ∀ w, G d = some w → NoSeq w := fun w hw => by
      rw [hG] at hw
      cases hw
      exact nd_dK
    refine core z zG (kv_lk nq kv) ⟨fun G' H' σ' cs' a b c => ?_, fun v G' H' c a x b r' => ?_, fun G' H' σ' cs' a b c => ?_, fun G' H' σ' cs' a b c => ?_, fun cls _ _ _ a _ _ => absurd a (hx cls)⟩
    · have hH := b.gh _ _ (c _ _ zG)
      refine ⟨hH, ?_⟩
      rw [lkf_upd hH]
      obtain ⟨u1, u2⟩ := Env.unlock en.ext hG b c
      exact r.nx _ _ _ _ a u1 u2
    · have gd := b _ _ zG
      have hH := x.gh _ _ gd
      refine ⟨hH, ?_⟩
      rw [lkf_upd hH]
      obtain ⟨u1, u2⟩ := Ext.unlock en.ext hG x b
      exact r.rt _ _ _ _ a u1 u2 (ROk.unlock gd r')
    · have hH := b.gh _ _ (c _ _ zG)
      refine ⟨hH, ?_⟩
      rw [lkf_upd hH]
      obtain ⟨u1, u2⟩ := Env.unlock en.ext hG b c
      exact r.bk _ _ _ _ a u1 u2
    · have hH := b.gh _ _ (c _ _ zG)
      refine ⟨hH, ?_⟩
      rw [lkf_upd hH]
      obtain ⟨u1, u2⟩ := Env.unlock en.ext hG b c
      exact r.ct _ _ _ _ a u1 u2
  · exact ⟨_, ps_for hp hc pi_v pg_v pss_v (by intro _; rfl), core en hG kv r⟩
end
end Fw

set_option maxRecDepth 100000
set_option maxHeartbeats 4000000
/-! {k: e for k in d} -/
namespace Fw
open PySem PySem.Spec PyProof.Rows L2
open Evl (Ex)
theorem dc_it {J : It} {n : Nat} {G : Hp → Prop} {Y : Nat → Hp → V → Hp → Prop} (w : Walk J n G Y) {g : TG} {tt : TT} {tk tv : TE} {vs : List Nat} {σ : L2.St} {H1 : Hp} {D : Addr} {Qd : Hp → Prop} (Pv : Nat → Hp → Prop) (h0 : Pv 0 (upd H1 D (.dK []))) (hG : ∀ i H, i ≤ n → Pv i H → G H)
    (hs : ∀ i x H H', i < n → Pv i H → Y i H x H' → g x (wipe σ vs) H' fun σ2 H2 => wipe σ2 vs = wipe σ vs ∧ tt σ2 H2 fun b H3 =>
      if b = true then tk σ2 H3 fun y H4 => tv σ2 H4 fun z H5 => ∃ kvs k, y = kV k ∧ H5 D = some (.dK kvs) ∧ kvs.length < sizeLine ∧ Pv (i + 1) (upd H5 D (.dK (putK kvs k z))) else Pv (i + 1) H3) (hd : ∀ H, Pv n H → Qd H) :
    ∃ W : Nat → Nat → Hp → Prop, (∃ m, W 0 m (upd H1 D (.dK []))) ∧ ∀ i m H, W i m H →
      (J.stop i H ∧ Qd H) ∨ (J.go i H ∧ ∃ Nx : Hp → Prop, (∀ H', Nx H' → ∃ m', m' < m ∧ W (i + 1) m' H') ∧ ∀ x H', J.yld i H x H' → g x (wipe σ vs) H' fun σ2 H2 => wipe σ2 vs = wipe σ vs ∧ tt σ2 H2 fun b H3 =>
        if b = true then tk σ2 H3 fun y H4 => tv σ2 H4 fun z H5 => ∃ kvs k, y = kV k ∧ H5 D = some (.dK kvs) ∧ kvs.length < sizeLine ∧ Nx (upd H5 D (.dK (putK kvs k z))) else Nx H3) := by
  refine ⟨fun i m H => m = n - i ∧ i ≤ n ∧ Pv i H, ⟨n, by simp, Nat.zero_le _, h0⟩, ?_⟩
  rintro i m H ⟨rfl, hi, p⟩
  have q := hG i H hi p
  by_cases hlt : i < n
  · refine .inr ⟨w.goes i H hlt q, Pv (i + 1), fun H' p' => ⟨n - (i + 1), by omega, rfl, hlt, p'⟩, fun x H' y => hs i x H H' hlt p (w.yields i H x H' hlt q y)⟩
  · have e : i = n := by omega
    subst e
    exact .inl ⟨w.stops H q, hd H p⟩
section
variable {X : Cx} {cs : List Cell} {pos p : Pos}
/-- the reading of a dict comprehension: acc i is what i turns have made -/
theorem dcD {ke ve it : Expr} {scope : Scope} {j : Nat} {ds : List PyData} {tg : Expr} (acc : Nat → List (Key × PyData)) (h0 : acc 0 = []) (hn : ds.length ≤ 90000)
    {G0 H0 G H : Hp} {σ : L2.St} (en : Env X.K G0 H0 G H σ cs) {Q : VK}
    (hi : ∀ {R : It → Hp → Prop}, (∀ J G' H', Ext G H G' H' → WalkD G' J ds → R J H') → vI X tg it σ H R)
    (hs : ∀ i d, ds[i]? = some d → ∃ kd kk y, (∀ B : Bk, XE (B.cx X scope) (cs.set j (.dat d)) ke (.dat kd)) ∧ keyD kd = some kk ∧ (∀ B : Bk, XE (B.cx X scope) (cs.set j (.dat d)) ve (.dat y)) ∧ acc (i + 1) = putD (acc i) kk y)
    (q : ∀ v G' H', Ext G H G' H' → ROk X.K H G' H' v (.odi (acc ds.length)) → Q v H') :
    tDc (vI X tg it) (gName j) (fTs X scope []) (fE X scope ke) (fE X scope ve) [j] σ H Q := by
  refine hi fun J G1 H1 x1 ⟨Y, w, y⟩ => fun D hD => ?_
  have hHD : H D = none := Evl.fresh_back x1.eh hD
  have hGD : G1 D = none := Evl.fresh_back x1.gh hD
  refine dc_it w (fun i H' => ∃ G', Ex G1 G' ∧ Ext G H G' H' ∧ G' D = none ∧ (acc i).length ≤ i ∧ ∃ ts, H' D = some (.dK ts) ∧ KvOk G' ts (acc i)) ?_ (fun i H' _ ⟨G', e, x, _⟩ => e.trans x.gh) ?_ ?_
  · exact ⟨G1, Evl.Ex.refl _, x1.mut hHD hGD, hGD, by rw [h0]; exact Nat.zero_le _, [], upd_same, by rw [h0]; exact .nil⟩
  · rintro i x H' H2 hi' ⟨G', e, x', gD, hl, ts, hts, ha⟩ yy
    obtain ⟨G2, d, x2, hd, r2⟩ := y i H' x H2 hi' (e.trans x'.gh) yy G' e x'.gh
    refine ⟨wipe_set1, ?_⟩
    have env2 : Env X.K G0 H0 G2 H2 ((wipe σ [j]).set j (some x)) (cs.set j (.dat d)) := by
      have e1 := ((en.step (x'.trans x2)).wipe j).set (Ext.refl x2.gh) (c := .dat d) (v := x) r2 j
      rw [List.set_set (l := cs)] at e1
      exact e1
    obtain ⟨kd, kk, z, hk, hkd, hv, ea⟩ := hs i d hd
    intro B
    refine xts_nil (X := B.cx X scope) env2 fun H3 e3 => ?_
    have x3 : Ext G H G2 H3 := (x'.trans x2).trans (Ext.heap x2.gh e3)
    have g2D : G2 D = none := x2.apart gD hts
    have h3D : H3 D = some (.dK ts) := e3 _ _ (x2.eh _ _ hts)
    rw [if_pos rfl]
    intro B1
    refine hk B1 (env2.step (Ext.heap x2.gh e3)) fun v G4 H4 x4 r4 => ?_
    have g4D : G4 D = none := x4.apart g2D h3D
    have h4D : H4 D = some (.dK ts) := x4.eh _ _ h3D
    have ek := key_of r4 hkd
    subst ek
    intro B2
    refine hv B2 ((env2.step (Ext.heap x2.gh e3)).step x4) fun v5 G5 H5 x5 r5 => ?_
    have g5D : G5 D = none := x5.apart g4D h4D
    have h5D : H5 D = some (.dK ts) := x5.eh _ _ h4D
    refine ⟨ts, kk, rfl, h5D, by rw [kv_len ha]; exact Evl.sz_lt (by omega), G5, ((e.trans x2.eg).trans x4.eg).trans x5.eg, ((x3.trans x4).trans x5).mut hHD g5D, g5D, by rw [ea]; exact Nat.le_trans put_len (Nat.add_le_add hl (Nat.le_refl 1)), _, upd_same, ?_⟩
    rw [ea]
    exact kv_put (kv_mono ((x2.eg.trans x4.eg).trans x5.eg) ha) r5
  · rintro H' ⟨G', e, x', gD, hl, ts, hts, ha⟩
    exact q _ G' H' x' ⟨D, ts, rfl, hHD, gD, hts, ha⟩
theorem xe_dcKeys {ke ve : Expr} {scope : Scope} {x y : Str} {j i : Nat} {kvs : List (Key × PyData)} {tpos : Pos} (acc : Nat → List (Key × PyData)) (h0 : acc 0 = []) (hn : kvs.length ≤ 90000)
    (hN : X.N[i]? = some y) (hv : Vis X.env.scope y) (hd : (y == ("__debug__" : Str)) = false) (hcd : (y == ("__classdict__" : Str)) = false) (hsl : (cs.map Cell.lk)[i]? = some (.ldc kvs))
    (ok : BlkOk X.N X.env.scope scope [(x, j)]) (hc : X.calm = true) (hNd : X.N.Nodup) (hj : X.N[j]? = some x) (hx : ∀ B : Bk, Loc (B.cx X scope).env.scope x) (hfn : ∀ B : Bk, (B.cx X scope).fn x = true ∨ (B.cx X scope).env.scope.names.lookup x = some .local)
    (hs : ∀ i d, (keysD kvs)[i]? = some d → ∃ kd kk y, (∀ B : Bk, XE (B.cx X scope) ((cs.map Cell.lk).set j (.dat d)) ke (.dat kd)) ∧ keyD kd = some kk ∧ (∀ B : Bk, XE (B.cx X scope) ((cs.map Cell.lk).set j (.dat d)) ve (.dat y)) ∧ acc (i + 1) = putD (acc i) kk y) :
    XE X cs (.DictComp ke ve [⟨.Name x tpos, .Name y p, [], 0⟩] scope pos) (.odi (acc kvs.length)) := .mk fun {G0 H0 G H σ} en0 Q q => by
  have en := env_lk en0
  have kl : (keysD kvs).length = kvs.length := by unfold keysD; rw [List.length_map]
  obtain ⟨v, hv1, d, hs', rfl, rd, kv⟩ := en.ok i _ hsl (by intro z; cases z)
  have core : ∀ {G0 H0 G H : Hp} {o : Obj} {Q : VK}, Env X.K G0 H0 G H σ (cs.map Cell.lk) → G d = some (.frz o (.dK hs')) → KvOk G hs' kvs → (∀ v G' H', Ext G H G' H' → ROk X.K H G' H' v (.odi (acc kvs.length)) → Q v H') → tDc (vI X (.Name x tpos) (.Name y p)) (gName j) (fTs X scope []) (fE X scope ke) (fE X scope ve) [j] σ H Q := fun {G0 H0 G H o Q} en hG kv q =>
    dcD acc h0 (by rw [kl]; exact hn) en (fun {R} r => vi_keys en hN hv hd hcd hv1 hG kv fun J wd => r J G H (Ext.refl en.gh) wd) hs (by rw [kl]; exact q)
  have pe : PE X (.DictComp ke ve [⟨.Name x tpos, .Name y p, [], 0⟩] scope pos) (tDc (vI X (.Name x tpos) (.Name y p)) (gName j) (fTs X scope []) (fE X scope ke) (fE X scope ve) [j]) :=
    pe_dc (own := [(x, j)]) hc hNd pi_v ok (fun s H C cl fp => pg_name hNd hj (hx ⟨s, H, C, cl, fp⟩) (hfn ⟨s, H, C, cl, fp⟩)) (fun s H C cl fp => ⟨fun pins s' σ H' Q I h => pts_v.run pins s' σ H' Q I (h ⟨s, H, C, cl, fp⟩)⟩)
      (fun s H C cl fp => ⟨fun pins s' σ H' Q I h => pe_v.run pins s' σ H' Q I (h ⟨s, H, C, cl, fp⟩)⟩) (fun s H C cl fp => ⟨fun pins s' σ H' Q I h => pe_v.run pins s' σ H' Q I (h ⟨s, H, C, cl, fp⟩)⟩) (by intro _; rfl)
  rcases rd with hG | ⟨o, hG⟩
  · refine ⟨_, pe_lock pe, d, .dK hs', en.gh _ _ hG, trivial, fun od => ?_⟩
    have z := Env.lock (od := od) en hG
    rw [lk_lk] at z
    rw [lkf_upd (en.gh _ _ hG)]
    have zG : lkf d (.frz od (.dK hs')) G d = some (.frz od (.dK hs')) := by rw [lkf_eq, hG]; rfl
    have nq : ∀ w, G d = some w → NoSeq w := fun w hw => by
      rw [hG] at hw
      cases hw
      exact nd_dK
    refine core z zG (kv_lk nq kv) fun v G' H' x r => ?_
    have gd := x.eg _ _ zG
    have hH := x.gh _ _ gd
    refine ⟨hH, ?_⟩
    rw [lkf_upd hH]
    exact q _ _ _ (Ext.unlock (Ext.refl en.gh) hG x x.eg).1 (ROk.unlock gd r)
  · exact ⟨_, pe, core en hG kv q⟩
end
end Fw

set_option maxRecDepth 100000
set_option maxHeartbeats 4000000
namespace Fw
open PySem PySem.Spec PyProof.Rows L2
open Evl (Ex)
inductive Lk : List Cell → List Cell → Prop
  | nil : Lk [] []
  | dic {d : List (Key × PyData)} {cs cs' : List Cell} : Lk cs cs' → Lk (.dic d :: cs) (.ldc d :: cs')
  | un {cs cs' : List Cell} : Lk cs cs' → Lk (.un :: cs) (.un :: cs')
  | dat {d : PyData} {cs cs' : List Cell} : Lk cs cs' → Lk (.dat d :: cs) (.dat d :: cs')
  | scr {d : List Int} {cs cs' : List Cell} : Lk cs cs' → Lk (.scr d :: cs) (.scr d :: cs')
  | rng {d : Nat} {cs cs' : List Cell} : Lk cs cs' → Lk (.rng d :: cs) (.rng d :: cs')
  | ldc {d : List (Key × PyData)} {cs cs' : List Cell} : Lk cs cs' → Lk (.ldc d :: cs) (.ldc d :: cs')
  | own {d : List PyData} {cs cs' : List Cell} : Lk cs cs' → Lk (.own d :: cs) (.own d :: cs')
  | odi {d : List (Key × PyData)} {cs cs' : List Cell} : Lk cs cs' → Lk (.odi d :: cs) (.odi d :: cs')
  | any {c : Cell} {cs cs' : List Cell} : Lk cs cs' → Lk (c :: cs) (c.lk :: cs')
theorem Lk.eq {cs cs' : List Cell} (h : Lk cs cs') : cs.map Cell.lk = cs' := by
  induction h with
  | nil => rfl
  | any _ ih => rw [List.map_cons, ih]
  | _ _ ih => rw [List.map_cons, ih]; rfl
section
variable {X : Cx} {P : Program} {w : World} {K : PySem.W.Frag} {mg : Str → Option Value} {base : Heap} {k : Nat} {M : List (Option Str)} {GL BL : List Str} {cs cl : List Cell} {pos p : Pos} {Po : Po}
/-- {ke: ve for x in y} -/
theorem dck (nm : Nm X P w K mg base k M GL BL) {N : List Str} {sc scope : Scope} (hN : X.N = N) (hsc : X.env.scope = sc) {x y : Str} (j : Nat) {ke ve : Expr} {kvs : List (Key × PyData)} {tpos : Pos} (acc : Nat → List (Key × PyData)) (h0 : acc 0 = []) (hn : kvs.length ≤ 90000) (hl : Lk cs cl) (hsl : Sel M cl y (.ldc kvs))
    (hok : lcB N sc scope x j = true)
    (hs : ∀ i d, (keysD kvs)[i]? = some d → ∃ kd kk z, (∀ B : Bk, XE (B.cx X scope) (cl.set j (.dat d)) ke (.dat kd)) ∧ keyD kd = some kk ∧ (∀ B : Bk, XE (B.cx X scope) (cl.set j (.dat d)) ve (.dat z)) ∧ acc (i + 1) = putD (acc i) kk z) :
    XE X cs (.DictComp ke ve [⟨.Name x tpos, .Name y p, [], 0⟩] scope pos) (.odi (acc kvs.length)) := by
  subst hN
  subst hsc
  have he := hl.eq
  subst he
  unfold lcB at hok
  rw [Bool.and_eq_true, Bool.and_eq_true] at hok
  obtain ⟨⟨h1, h2⟩, h3⟩ := hok
  have h2' : (relS scope X.env.scope).names.lookup x = some .local := by
    split at h2
    · assumption
    · cases h2
  obtain ⟨i, hi1, hi2⟩ := hsl.ix
  have hm := List.mem_of_getElem? hi1
  exact xe_dcKeys acc h0 hn (nm.pre i y hi1) (nm.vis y hm) (nm.dbg y hm).1 (nm.dbg y hm).2 hi2 (blkOk_by h1) nm.calm nm.nd (of_decide_eq_true h3) (fun B => .inl h2') (fun B => .inr h2') hs
/-- for k in y -/
theorem forK (nm : Nm X P w K mg base k M GL BL) (nd : Nd X M) {tg : Expr} {y : Str} {body : List Stmt} {kvs : List (Key × PyData)} (I : Nat → List Cell → Prop) (hl : Lk cs cl) (hsl : Sel M cl y (.ldc kvs)) (h0 : I 0 cl)
    (hb : ∀ j d cs', (keysD kvs)[j]? = some d → I j cs' → XG X cs' tg d fun cs2 => XSs X cs2 body { nx := I (j + 1), rt := Po.rt, bk := Po.nx, ct := I (j + 1), ex := Po.ex, E := Po.E }) (hd : ∀ cs', I kvs.length cs' → Po.nx cs') (hx : ∀ c, ¬ Po.ex c := by intro _ h; exact h) : XS X cs (.For tg (.Name y p) body [] pos) Po := by
  have he := hl.eq
  subst he
  obtain ⟨i, hi1, hi2⟩ := hsl.ix
  have hm := List.mem_of_getElem? hi1
  exact x_forKeys i I nd.own nm.calm (nm.pre i y hi1) (nm.vis y hm) (nm.dbg y hm).1 (nm.dbg y hm).2 hi2 h0 hb hd hx
end
end Fw

set_option maxRecDepth 100000
set_option maxHeartbeats 4000000
/-! more: a list turned about, is it a dict, dicts compared -/
namespace Fw
open PySem PySem.Spec PyProof.Rows L2
open Evl (Ex)
theorem Paired.memL {α β : Type} {F : α → β → Prop} {l : List α} {m : List β} (h : Paired F l m) : ∀ a ∈ l, ∃ b ∈ m, F a b := by
  induction h with
  | nil => exact fun _ h => nomatch h
  | @cons a b l m r _ ih =>
    intro x hx
    rcases List.mem_cons.mp hx with rfl | hx
    · exact ⟨b, List.mem_cons_self, r⟩
    · obtain ⟨y, h1, h2⟩ := ih x hx
      exact ⟨y, List.mem_cons_of_mem _ h1, h2⟩
theorem dpa_rev {G : Hp} : ∀ {ds : List PyData} {vs : List V}, DtA G vs ds → DtA G vs.reverse ds.reverse
  | [], _, h => by cases h; exact .nil
  | d :: ds, _, h => by
    cases h with
    | cons h1 h2 =>
      rw [List.reverse_cons, List.reverse_cons]
      exact dpa_append (dpa_rev h2) (dpa_one h1)
section
variable {X : Cx} {P : Program} {w : World} {K : PySem.W.Frag} {mg : Str → Option Value} {base : Heap} {k : Nat} {M : List (Option Str)} {GL BL : List Str} {cs cs' : List Cell} {pos p pos' p1 p2 p3 : Pos} {Po : Po}
/-- e[::-1] -/
theorem xe_rev {e : Expr} {ds : List PyData} {kk : Nat} (h : XE X cs e (.dat (.list ds))) : XE X cs (.Subscript e (.Slice none none (some (.UnaryOp .USub (.Constant (.int 1) kk p1) p2)) p3) pos) (.own ds.reverse) := .mk fun en Q q =>
  ⟨_, pe_revL pe_v, h en fun v G' H' x r => by
    cases r with
    | @lst a xs _ hs ha =>
      exact ⟨a, xs, rfl, SqL.of (x.gh _ _ hs), fun p hp => q _ G' _ (x.trans (Ext.heap x.gh (Evl.Ex.new hp))) ⟨p, _, rfl, Evl.fresh_back x.eh hp, Evl.fresh_back x.gh hp, upd_same, dpa_rev ha⟩⟩⟩
/-- isinstance(x, dict) of a dict -/
theorem isiD (nm : Nm X P w K mg base k M GL BL) {x : Expr} {kvs : List (Key × PyData)} (hx : XE X cs x (.ldc kvs)) (hg : Has GL "isinstance") (hb : Has BL "isinstance") (hgT : Has GL "dict") (hbT : Has BL "dict")
    (he : starEach [x, .Name "dict" p'] X.env = (false, eval x X.env) :: starEach [.Name "dict" p'] X.env := by rfl) (he2 : starEach [.Name "dict" p'] X.env = (false, eval (.Name "dict" p') X.env) :: starEach [] X.env := by rfl) (hpl : (backTo pos (starEach [.Name "dict" p'] X.env)).any (·.1) = false := by rfl) :
    XE X cs (.Call (.Name "isinstance" p) [x, .Name "dict" p'] [] pos) (.dat (.bool true)) := .mk fun en Q q =>
  ⟨_, pe_callB call_isi (nm.gl _ hg.mem).1 (by rw [nm.hmg]; exact nm.bl _ hb.mem) (by decide +kernel) (pa_cons pe_v (pa_cons (pe_bltn (v := .ty "dict") (nm.gl _ hgT.mem).1 (by rw [nm.hmg]; exact nm.bl _ hbT.mem) bb_dict rfl (by decide) (by decide)) pa_nil he2) he) (by decide) (by decide) he hpl, hx en fun v G' H' x1 ⟨a, hs, e1, h1, h2⟩ => by
    subst e1
    refine ⟨.ref a, .ty "dict", .type "dict", .type "dict", true, rfl, .ty "dict", ?_, kit_dict (.dict []) _, q _ _ _ x1 (.bl true)⟩
    rcases h1 with h1 | ⟨o, h1⟩
    · exact .base (.dK (x1.gh _ _ h1))
    · exact .fDict (x1.gh _ _ h1)⟩
/-- two dicts that agree -/
theorem xe_eqDic (nm : Nm X P w K mg base k M GL BL) {a b : Expr} {k1 k2 : List (Key × PyData)} (ha : XE X cs a (.dic k1)) (hb : XE X cs b (.dic k2)) (hl : k1.length = k2.length) (h : ∀ q ∈ k1, lookD k2 q.1 = some q.2 ∧ ∃ i, q.2 = .int i) (hm : behindInMarks .Eq b = false := by first | exact nomark _ | rfl) :
    XE X cs (.Compare a [.Eq] [b] pos) (.dat (.bool true)) := .mk fun en Q q =>
  ⟨_, pe_cmpR (op_eq_dictA (by have := nm.hu1; omega)) pe_v pe_v hm, ha en fun x G1 H1 x1 ⟨a1, h1, e1, g1, kv1⟩ => hb (en.step x1) fun y G2 H2 x2 ⟨a2, h2, e2, g2, kv2⟩ => by
    subst e1
    subst e2
    have kv1' := kv_mono x2.eg kv1
    refine ⟨a1, a2, h1, h2, rfl, rfl, x2.gh _ _ (x2.eg _ _ g1), x2.gh _ _ g2, by rw [kv_len kv1, kv_len kv2, hl], fun pr hp => ?_, q _ G2 H2 (x1.trans x2) (.bl true)⟩
    obtain ⟨b, hbm, hk, r⟩ := Paired.memL kv1' pr hp
    obtain ⟨l1, i, l2⟩ := h b hbm
    obtain ⟨v, hv, rv⟩ := kv_some kv2 l1
    rw [l2] at rv r
    rw [hk]
    cases rv
    have e : pr.2 = V.int i := by
      obtain ⟨p1, p2⟩ := pr
      have r : Dt G2 p2 (.int i) := r
      cases r
      rfl
    rw [e]
    exact ⟨hv, rfl⟩⟩
/-- dict(x), x an own dict -/
theorem xe_dcopyOwn (nm : Nm X P w K mg base k M GL BL) {x : Str} {kvs : List (Key × PyData)} (hg : Has GL "dict") (hb : Has BL "dict") (h : Sel M cs x (.odi kvs)) (he : starEach [.Name x p] X.env = (false, eval (.Name x p) X.env) :: starEach [] X.env := by rfl) (hpl : (backTo pos (starEach [] X.env)).any (·.1) = false := by rfl) :
    XE X cs (.Call (.Name "dict" pos') [.Name x p] [] pos) (.odi kvs) := .mk fun en Q q => by
  obtain ⟨j, a, hs', hpe, hσ, ha, hkv⟩ := xe_own2ldc (pos := p) nm h en
  exact ⟨_, pe_callTy call_dictD (nm.gl _ hg.mem).1 (by rw [nm.hmg]; exact nm.bl _ hb.mem) bb_dict (pa_cons hpe pa_nil he) (by decide) (by decide) he hpl, _, hσ, a, hs', rfl, Rd.of ha, fun b hb => q _ _ _ (Ext.heap en.gh (Evl.Ex.new hb)) ⟨b, hs', rfl, hb, Evl.fresh_back en.gh hb, upd_same, hkv⟩⟩
/-- .. one of them told by a promise -/
theorem xe_eqDicP (nm : Nm X P w K mg base k M GL BL) {a b : Expr} {R : Cell → Prop} {k2 : List (Key × PyData)} (ha : XEP X cs a R) (hb : XE X cs b (.dic k2)) (h : ∀ c, R c → ∃ k1, c = .odi k1 ∧ k1.length = k2.length ∧ ∀ q ∈ k1, lookD k2 q.1 = some q.2 ∧ ∃ i, q.2 = .int i) (hm : behindInMarks .Eq b = false := by first | exact nomark _ | rfl) :
    XE X cs (.Compare a [.Eq] [b] pos) (.dat (.bool true)) := .mk fun en Q q =>
  ⟨_, pe_cmpR (op_eq_dictA (by have := nm.hu1; omega)) pe_v pe_v hm, ha en fun x G1 H1 c pc x1 r1 => hb (en.step x1) fun y G2 H2 x2 ⟨a2, h2, e2, g2, kv2⟩ => by
    obtain ⟨k1, rfl, hl, h⟩ := h c pc
    obtain ⟨a1, h1, e1, _, _, g1, kv1⟩ := r1
    subst e1
    subst e2
    have kv1' := kv_mono x2.eg kv1
    refine ⟨a1, a2, h1, h2, rfl, rfl, x2.eh _ _ g1, x2.gh _ _ g2, by rw [kv_len kv1, kv_len kv2, hl], fun pr hp => ?_, q _ G2 H2 (x1.trans x2) (.bl true)⟩
    obtain ⟨b, hbm, hk, r⟩ := Paired.memL kv1' pr hp
    obtain ⟨l1, i, l2⟩ := h b hbm
    obtain ⟨v, hv, rv⟩ := kv_some kv2 l1
    rw [l2] at rv r
    rw [hk]
    cases rv
    have e : pr.2 = V.int i := by
      obtain ⟨p1, p2⟩ := pr
      have r : Dt G2 p2 (.int i) := r
      cases r
      rfl
    rw [e]
    exact ⟨hv, rfl⟩⟩
end
theorem eqv_nil {ds : List PyData} (h : ds ≠ []) : PyData.eqv (.list ds) (.list []) = false := by
  cases ds with
  | nil => exact absurd rfl h
  | cons d r => simp [PyData.eqv, PyData.eqvAll]
end Fw

set_option maxRecDepth 100000
set_option maxHeartbeats 4000000
/-! a call whose first argument is told by a promise; min; is None; a list of one's own turned about -/
namespace Fw
open PySem PySem.Spec PyProof.Rows L2
open Evl (Ex)
def isNoneD : PyData → Bool
  | .none => true
  | _ => false
section
variable {X : Cx} {P : Program} {w : World} {K : PySem.W.Frag} {mg : Str → Option Value} {base : Heap} {k : Nat} {M : List (Option Str)} {GL BL : List Str} {cs cs' : List Cell} {pos p pos' p1 p2 p3 : Pos} {Po : Po}
theorem calP (nm : Nm X P w K mg base k M GL BL) {x : Str} {j : Nat} {α : Type} {pre : α → List Cell} {post : α → Cell → Prop} (C : Cal P w K mg base x j (Con K pre post)) (hj : j ≤ k) (hg : Has GL x) {e : Expr} {es : List Expr} {R R' : Cell → Prop} {cl : List Cell} (he : XEP X cs e R) (n : ∀ c, R c → c ≠ .un) (hes : XA X cs es cl)
    (ha : ∀ c, R c → ∃ a, pre a = c.fr :: cl ∧ ∀ c', post a c' → R' c') (hs : starEach (e :: es) X.env = (false, eval e X.env) :: starEach es X.env := by rfl) (hpl : (backTo pos (starEach es X.env)).any (·.1) = false := by rfl) :
    XEP X cs (.Call (.Name x p) (e :: es) [] pos) R' := by
  obtain ⟨rfl, rfl, rfl, rfl, rfl⟩ : X.prog = P ∧ X.w = w ∧ X.K = K ∧ X.mg = mg ∧ X.base = base := ⟨nm.hP, nm.hw, nm.hK, nm.hmg, nm.hbase⟩
  refine .mk fun en Q q => ?_
  obtain ⟨f, fd, ps, F, hm, hk, hb⟩ := C
  refine ⟨_, pe_call F (nm.room.mono hj) (nm.gl x hg.mem).1 hm hk hb .nil pass0 (pa_cons pe_v pa_v hs) (nm.gl x hg.mem).2.1 hs hpl, he en fun v G1 H1 c pc x1 r1 => ?_⟩
  obtain ⟨G2, x2, _, r2⟩ := r1.seal x1 (n c pc)
  obtain ⟨a, ea, ha⟩ := ha c pc
  refine hes (en.step x2) fun vs G3 H3 x3 r3 => ⟨a, G3, x3.gh, ?_, fun v G' H' c pc x4 r4 => q v G' H' c (ha c pc) ((x2.trans x3).trans x4) (r4.base (x2.trans x3).eh)⟩
  rw [List.append_nil, ea]
  exact .cons (r2.mono x3.eg) r3
theorem cl_min (hc : X.calm = true) {ns : List Int} {m : Int} (hm : m ∈ ns) (hl : ∀ y ∈ ns, m ≤ y) : CallD X (.builtin "min") [.list (ns.map .int)] (.dat (.int m)) := ⟨_, cr_min hc, fun gh h Q q => by
  cases h with
  | cons h h' =>
    cases h'
    cases h with
    | @lst a xs _ hs ha =>
      have e := dpa_ints' ha
      subst e
      refine ⟨a, ns, rfl, SqL.of (gh _ _ hs), List.length_pos_of_mem hm, fun m' h1 h2 => ?_⟩
      have : m' = m := Int.le_antisymm (h2 _ hm) (hl _ h1)
      subst this
      exact q _ _ _ (Ext.refl gh) (.int _)⟩
theorem cd_isN {d : PyData} : CmpD X .Is d .none (isNoneD d) := ⟨_, op_isN, fun {G H x y} gh hx hy Q q => by
  cases hy
  refine ⟨rfl, ?_⟩
  have : decide (x = V.non) = isNoneD d := by cases hx <;> simp [isNoneD]
  rw [this]
  exact q⟩
theorem cd_isnN {d : PyData} : CmpD X .IsNot d .none (!isNoneD d) := ⟨_, op_notN, fun {G H x y} gh hx hy Q q => by
  cases hy
  refine ⟨rfl, ?_⟩
  have : decide (x = V.non) = isNoneD d := by cases hx <;> simp [isNoneD]
  rw [this]
  exact q⟩
end
theorem atI_last {α : Type} {l : List α} {x : α} : atI (l ++ [x]) (-1) = some x := by
  unfold atI ixN
  rw [if_neg (by decide), List.length_append, List.length_singleton, if_pos (by omega)]
  show (l ++ [x])[_]? = _
  rw [show ((-1 : Int) + ((l.length + 1 : Nat) : Int)).toNat = l.length by omega, List.getElem?_append_right (Nat.le_refl _), Nat.sub_self]
  rfl
theorem filter_take {α : Type} {f : α → Bool} {l : List α} {i : Nat} {a : α} (h : l[i]? = some a) : (l.take (i + 1)).filter f = if f a = true then (l.take i).filter f ++ [a] else (l.take i).filter f := by
  rw [List.take_add_one, h, List.filter_append]
  cases e : f a <;> simp [e]
theorem fdiv_nat (i n : Nat) : (i : Int).fdiv (n : Int) = ((i / n : Nat) : Int) := by
  rw [Int.fdiv_eq_ediv_of_nonneg _ (by omega)]
  rfl
theorem fmod_nat (i n : Nat) : (i : Int).fmod (n : Int) = ((i % n : Nat) : Int) := by
  rw [Int.fmod_eq_emod_of_nonneg _ (by omega)]
  rfl
theorem rng_map {n : Nat} {f : Nat → PyData} {g : Nat → PyData → PyData} (h : ∀ i d, i < n → g i d = f i) : ((rangeD 0 (n : Int).toNat).zipIdx.map fun p => g p.2 p.1) = (List.range n).map f := by
  refine List.ext_getElem? fun i => ?_
  rw [List.getElem?_map, List.getElem?_map, List.getElem?_zipIdx]
  by_cases hi : i < n
  · rw [rangeD_get (by omega), List.getElem?_range hi]
    simp only [Option.map_some, Nat.zero_add]
    rw [h _ _ hi]
  · rw [List.getElem?_eq_none (by rw [rangeD_len]; omega), List.getElem?_eq_none (by rw [List.length_range]; omega)]
    rfl
end Fw

set_option maxRecDepth 100000
set_option maxHeartbeats 4000000
/-! what is reckoned while all is frozen, if it is flat; a place of a list stored; a list thawed -/
namespace Fw
open PySem PySem.Spec PyProof.Rows L2
open Evl (Ex)
def flatC : Cell → Prop
  | .dat d => scalD d = true
  | .own ds => ∀ d ∈ ds, scalD d = true
  | .odi kvs => ∀ q ∈ kvs, scalD q.2 = true
  | _ => False
theorem dta_scal {G G' : Hp} : ∀ {ds : List PyData} {vs : List V}, DtA G vs ds → (∀ d ∈ ds, scalD d = true) → DtA G' vs ds
  | [], _, h, _ => by cases h; exact .nil
  | d :: ds, _, h, s => by
    cases h with
    | cons h1 h2 => exact .cons (dt_scal h1 (s d List.mem_cons_self)) (dta_scal h2 fun x hx => s x (List.mem_cons_of_mem _ hx))
theorem kv_scal {G G' : Hp} {hs : List (Key × V)} {kvs : List (Key × PyData)} (h : KvOk G hs kvs) (s : ∀ q ∈ kvs, scalD q.2 = true) : KvOk G' hs kvs := by
  unfold KvOk at h ⊢
  induction h with
  | nil => exact .nil
  | cons r t ih => exact .cons ⟨r.1, dt_scal r.2 (s _ List.mem_cons_self)⟩ (ih fun q hq => s q (List.mem_cons_of_mem _ hq))
section
variable {X : Cx} {P : Program} {w : World} {K : PySem.W.Frag} {mg : Str → Option Value} {base : Heap} {k : Nat} {M : List (Option Str)} {GL BL : List Str} {cs cs' : List Cell} {pos p pos' p1 p2 p3 : Pos} {Po : Po}
theorem XEP.frz {e : Expr} {R : Cell → Prop} (h : XEP X (cs.map Cell.fr) e R) (hf : ∀ c, R c → flatC c) : XEP X cs e R := .mk fun {G0 H0 G H σ} en Q q => h en.frz fun v G' H' c pc x r => by
  have f := hf c pc
  refine q v G H' c pc (Ext.heap en.gh x.eh) ?_
  cases c with
  | dat d => exact dt_scal r f
  | own ds =>
    obtain ⟨p, ts, e1, h0, h1, h2, h3⟩ := r
    exact ⟨p, ts, e1, h0, Evl.fresh_back en.gh h0, h2, dta_scal h3 f⟩
  | odi kvs =>
    obtain ⟨p, ts, e1, h0, h1, h2, h3⟩ := r
    exact ⟨p, ts, e1, h0, Evl.fresh_back en.gh h0, h2, kv_scal h3 f⟩
  | un => exact f.elim
  | scr ns => exact f.elim
  | rng n => exact f.elim
  | ldc kvs => exact f.elim
  | dic kvs => exact f.elim
/-- what is told by a promise, reckoned while all is frozen -/
theorem scP (hf : Fz cs cs') {e : Expr} {R : Cell → Prop} (h : XEP X cs' e R) (s : ∀ c, R c → flatC c) : XEP X cs e R := XEP.frz (by rw [hf.eq]; exact h) s
theorem scO (hf : Fz cs cs') {e : Expr} {c : Cell} (h : XE X cs' e c) (s : flatC c) : XE X cs e c := (scP hf h.xep (fun c' e => by subst e; exact s)).to fun _ e => e
/-- xs[i] = e, xs one's own -/
theorem lput (nm : Nm X P w K mg base k M GL BL) {x : Str} {i value : Expr} {d : PyData} {ds : List PyData} {n : Int} {j : Nat} (h : Sel M cs x (.own ds)) (hv : XE X cs value (.dat d)) (hi : XE X cs i (.dat (.int n))) (hj : ixN ds.length n = some j) (hu : Upd M cs x (.own (ds.set j d)) cs') (kn : Po.nx cs')
    (hs : swapsWithSole [.Subscript (.Name x p) i pos'] value pos.line X.env = pure false := by rfl) (hw : swappedStores [.Subscript (.Name x p) i pos'] value X.env = pure none := by rfl) (h1 : (assignEach [.Subscript (.Name x p) i pos'] X.env).map (·.2) = [assign (.Subscript (.Name x p) i pos') X.env] := by rfl)
    (hg : ∀ v, assign (.Subscript (.Name x p) i pos') X.env v = (do
      let ov ← holding [v] (eval (.Name x p) X.env)
      let iv ← holding [v, ov] (eval i X.env)
      standAt pos'
      holding [v, ov, iv] (setItem ov iv v)
      release [v, ov, iv] []) := by intro _; rfl) :
    XS X cs (.Assign [.Subscript (.Name x p) i pos'] value pos) Po := .mk fun {G0 H0 G H σ} en D r => by
  obtain ⟨a, b1, b2⟩ := h.ix
  obtain ⟨a', b1', rfl⟩ := hu.ix
  have : a = a' := nodup_ix nm.nd (nm.pre a x b1) (nm.pre a' x b1')
  subst this
  have hm := List.mem_of_getElem? b1
  refine ⟨_, ps_asg pe_v (pg_sub (pe_var (nm.pre a x b1) (nm.vis x hm) (nm.dbg x hm).1 (nm.dbg x hm).2) pe_v set_list hg) hs hw h1, hv en fun v G1 H1 x1 r1 => ?_⟩
  obtain ⟨u, hσ, l, ts, rfl, g0, g1, g2, g3⟩ := (en.step x1).ok a _ b2 (fun z => by cases z)
  refine ⟨_, hσ, hi (en.step x1) fun y G2 H2 x2 r2 => ?_⟩
  cases r2
  have en2 := (en.step x1).step x2
  refine ⟨l, ts, n, j, rfl, rfl, x2.eh _ _ g2, by rw [dpa_len g3]; exact hj, ?_⟩
  exact r.nx _ _ _ _ kn (en2.mutL b2 hσ (dpa_set j (dpa_mono x2.eg _ _ g3) (dp_mono x2.eg _ _ r1))) (x1.eg.trans x2.eg)
/-! ### what was made new may be thawed -/
mutual
def noLst : PyData → Bool
  | .none => true
  | .bool _ => true
  | .int _ => true
  | .str _ => true
  | .list _ => false
  | .tuple ds => noLsts ds
  | .dict _ => false
def noLsts : List PyData → Bool
  | [] => true
  | d :: ds => noLst d && noLsts ds
end
end
section
variable {G G' : Hp} {q : Addr} {xs : List V}
mutual
theorem dp_off (hq : G q = some (.lst xs)) (h : ∀ a u, a ≠ q → G a = some u → G' a = some u) : ∀ (d : PyData) (v : V), Dt G v d → noLst d = true → Dt G' v d
  | .none, _, r, _ => by cases r; exact .non
  | .bool b, _, r, _ => by cases r; exact .bl b
  | .int i, _, r, _ => by cases r; exact .int i
  | .str x, _, r, _ => by cases r; exact .str x
  | .list ds, _, _, n => by cases n
  | .tuple ds, _, r, n => by
    cases r with
    | @tup a ys _ hs ha =>
      have : a ≠ q := fun z => by
        subst z
        rw [hq] at hs
        cases hs
      exact .tup (h a _ this hs) (dpa_off hq h ds _ ha n)
  | .dict _, _, r, _ => by cases r
theorem dpa_off (hq : G q = some (.lst xs)) (h : ∀ a u, a ≠ q → G a = some u → G' a = some u) : ∀ (ds : List PyData) (vs : List V), DtA G vs ds → noLsts ds = true → DtA G' vs ds
  | [], _, r, _ => by cases r; exact .nil
  | d :: ds, _, r, n => by
    have n : (noLst d && noLsts ds) = true := n
    rw [Bool.and_eq_true] at n
    cases r with
    | cons h1 h2 => exact .cons (dp_off hq h d _ h1 n.1) (dpa_off hq h ds _ h2 n.2)
end
theorem noLsts_map {α : Type} {f : α → PyData} {l : List α} (h : ∀ a, noLst (f a) = true) : noLsts (l.map f) = true := by
  induction l with
  | nil => rfl
  | cons a l ih =>
    show (noLst (f a) && noLsts (l.map f)) = true
    rw [h a, ih]
    rfl
end
open Classical in
theorem thaw {G H Gm G' H' : Hp} (gh : Ex G H) (hm : Ex Gm G) (x : Ext Gm H G' H') {q : Addr} {ts : List V} (hq : G' q = some (.lst ts)) (nq : Gm q = none) :
    ∃ Gu, Ext G H Gu H' ∧ Gu q = none ∧ H q = none ∧ ∀ a u, a ≠ q → G' a = some u → Gu a = some u := by
  have fq : H q = none := x.nw q nq (by rw [hq]; intro z; cases z)
  have gq : G q = none := Evl.fresh_back gh fq
  refine ⟨fun a => if a = q then none else (G a).or (G' a), ⟨fun a u h => ?_, x.eh, fun a u h => ?_, fun a g g' => ?_⟩, if_pos rfl, fq, fun a u h e => ?_⟩
  · have : a ≠ q := fun z => by
      subst z
      rw [gq] at h
      cases h
    show (if a = q then none else (G a).or (G' a)) = _
    rw [if_neg this, h]
    rfl
  · have h : (if a = q then none else (G a).or (G' a)) = some u := h
    split at h
    · cases h
    · cases e : G a with
      | some o =>
        rw [e] at h
        cases h
        exact x.eh _ _ (gh _ _ e)
      | none =>
        rw [e] at h
        exact x.gh _ _ h
  · have g' : (if a = q then none else (G a).or (G' a)) ≠ none := g'
    rw [g] at g'
    split at g'
    · exact absurd rfl g'
    · exact x.nw a (Evl.fresh_back hm g) g'
  · show (if a = q then none else (G a).or (G' a)) = _
    rw [if_neg h]
    cases e2 : G a with
    | some o =>
      have h1 := x.eh _ _ (gh _ _ e2)
      have h2 := x.gh _ _ e
      rw [h1] at h2
      cases h2
      rfl
    | none => exact e
end Fw
namespace Fw
open PySem PySem.Spec PyProof.Rows L2
open Evl (Ex)
section
variable {X : Cx} {P : Program} {w : World} {K : PySem.W.Frag} {mg : Str → Option Value} {base : Heap} {k : Nat} {M : List (Option Str)} {GL BL : List Str} {cs cs' : List Cell} {Po : Po}
theorem xs_sealOr (nm : Nm X P w K mg base k M GL BL) {x : Str} {ds : List PyData} {sts : List Stmt} {c : Cell} (hc : c = .dat (.list ds) ∨ c = .own ds) (h : Sel M cs x c) (hu : Upd M cs x (.dat (.list ds)) cs') (kk : XSs X cs' sts Po) : XSs X cs sts Po := by
  rcases hc with rfl | rfl
  · obtain ⟨i, h1, h2⟩ := h.ix
    obtain ⟨i', h1', rfl⟩ := hu.ix
    have : i = i' := nodup_ix nm.nd (nm.pre i x h1) (nm.pre i' x h1')
    subst this
    have e : cs.set i (.dat (.list ds)) = cs := by
      refine List.ext_getElem? fun j => ?_
      rw [List.getElem?_set]
      split
      · rename_i e
        subst e
        rw [if_pos (List.getElem?_eq_some_iff.mp h2).1, h2]
      · rfl
    rw [e] at kk
    exact kk
  · exact xs_seal nm h hu kk
end
end Fw
namespace Fw
open PySem PySem.Spec PyProof.Rows L2
open Evl (Ex)
theorem join {G H Gm G' H' : Hp} (gh : Ex G H) (hm : Ex Gm G) (x : Ext Gm H G' H') : ∃ Gu, Ext G H Gu H' ∧ Ex G' Gu := by
  refine ⟨fun a => (G a).or (G' a), ⟨fun a u h => ?_, x.eh, fun a u h => ?_, fun a g g' => ?_⟩, fun a u h => ?_⟩
  · show (G a).or (G' a) = _
    rw [h]
    rfl
  · have h : (G a).or (G' a) = some u := h
    cases e : G a with
    | some o =>
      rw [e] at h
      cases h
      exact x.eh _ _ (gh _ _ e)
    | none =>
      rw [e] at h
      exact x.gh _ _ h
  · have g' : (G a).or (G' a) ≠ none := g'
    rw [g] at g'
    exact x.nw a (Evl.fresh_back hm g) g'
  · show (G a).or (G' a) = _
    cases e2 : G a with
    | some o =>
      have h1 := x.eh _ _ (gh _ _ e2)
      have h2 := x.gh _ _ h
      rw [h1] at h2
      cases h2
      rfl
    | none => exact h
/-- what of the frozen the script alone needs -/
theorem scr_min {K : PySem.W.Frag} {G : Hp} {sp : Addr} {ns : List Int} (sq : SqL K G sp (ns.map V.int)) : ∃ Gm, Ex Gm G ∧ SqL K Gm sp (ns.map V.int) ∧ ∀ a xs, Gm a = some (.lst xs) → ∃ ns : List Int, xs = ns.map V.int := by
  have hG : Ex (fun a => if a = sp then G a else none) G := fun a u h => by
    have h : (if a = sp then G a else none) = some u := h
    split at h
    · exact h
    · cases h
  rcases sq with (h | ⟨ob, h⟩) | h
  · refine ⟨_, hG, .inl (.inl (by show (if sp = sp then G sp else none) = _; rw [if_pos rfl]; exact h)), fun a xs e => ?_⟩
    have e : (if a = sp then G a else none) = some (.lst xs) := e
    split at e
    · rename_i z
      rw [z, h] at e
      cases e
      exact ⟨ns, rfl⟩
    · cases e
  · refine ⟨_, hG, .inl (.inr ⟨ob, by show (if sp = sp then G sp else none) = _; rw [if_pos rfl]; exact h⟩), fun a xs e => ?_⟩
    have e : (if a = sp then G a else none) = some (.lst xs) := e
    split at e
    · rename_i z
      rw [z, h] at e
      cases e
    · cases e
  · refine ⟨fun _ => none, fun a u h => ?_, .inr h, fun a xs h => ?_⟩
    · have h : (none : Option HO) = some u := h
      cases h
    · have h : (none : Option HO) = some (.lst xs) := h
      cases h
end Fw

set_option maxRecDepth 100000
set_option maxHeartbeats 4000000
/-! defs that raise -/
namespace Fw
open PySem PySem.Spec PyProof.Rows L2
open Evl (Ex)
/-- a promise of a def that may raise: exc tells the classes -/
def ConX (K : PySem.W.Frag) {α : Type} (pre : α → List Cell) (post : α → Cell → Prop) (exc : α → Value → Prop) : Sp := fun vs H Q E =>
  ∃ (a : α) (G : Hp), Ex G H ∧ Paired (FrOk K G) vs (pre a) ∧ (∀ v G' H' c, post a c → Ext G H G' H' → ROk K H G' H' v c → Q v H') ∧ ∀ cls G' H', exc a cls → Ext G H G' H' → E cls none H'
def CalX (P : Program) (w : World) (K : PySem.W.Frag) (mg : Str → Option Value) (base : Heap) (x : Str) (k : Nat) (sp : Sp) : Prop :=
  ∃ f fd ps, FnOk P w K mg base (L2.CX P w) k f fd ps sp ∧ mg x = some (.ref f) ∧ PySem.W.keepIn K (.ref f) = true ∧ Binds K fd ps []
theorem calx_mk {P : Program} {w : World} {K : PySem.W.Frag} {mg : Str → Option Value} {base : Heap} {x qual : Str} {st : Stmt} {f : Addr} {fd : FuncData} {ps : List Str} {k : Nat} {sp : Sp} (F : Fun K x qual st f fd) (h : FnOk P w K mg base (L2.CX P w) k f fd ps sp) (hm : mg x = some (.ref f)) (hb : Binds K fd ps []) : CalX P w K mg base x k sp :=
  ⟨f, fd, ps, h, hm, F.kp, hb⟩
theorem CalX.mono {P : Program} {w : World} {K : PySem.W.Frag} {mg : Str → Option Value} {base : Heap} {x : Str} {j k : Nat} {sp : Sp} (C : CalX P w K mg base x j sp) (h : j ≤ k) : CalX P w K mg base x k sp := by
  obtain ⟨f, fd, ps, F, r⟩ := C
  exact ⟨f, fd, ps, F.mono h, r⟩
/-- an expression that may raise -/
structure XEX (X : Cx) (E : L2.St → XK) (cs : List Cell) (e : Expr) (R : Cell → Prop) (xc : Value → Prop) : Prop where
  run : ∀ {G0 H0 G H : Hp} {σ : L2.St}, Env X.K G0 H0 G H σ cs → (∀ cls G' H', xc cls → Ext G H G' H' → E σ cls none H') → ∀ {Q : VK}, (∀ v G' H' c, R c → Ext G H G' H' → ROk X.K H G' H' v c → Q v H') → vE X e σ H Q
section
variable {X : Cx} {P : Program} {w : World} {K : PySem.W.Frag} {mg : Str → Option Value} {base : Heap} {k : Nat} {M : List (Option Str)} {GL BL : List Str} {cs cs' : List Cell} {pos p pos' p1 p2 p3 : Pos} {Po : Po}
theorem XEP.x {E : L2.St → XK} {e : Expr} {R : Cell → Prop} {xc : Value → Prop} (h : XEP X cs e R) : XEX X E cs e R xc := .mk fun en _ Q q => h en q
theorem calX (nm : Nm X P w K mg base k M GL BL) {x : Str} {j : Nat} {α : Type} {pre : α → List Cell} {post : α → Cell → Prop} {exc : α → Value → Prop} {W : WX} (tk : Takes X W) (C : CalX P w K mg base x j (ConX K pre post exc)) (hj : j ≤ k) (hg : Has GL x) (a : α) {e : Expr} {es : List Expr} (ha : XA X cs (e :: es) (pre a))
    (he : starEach (e :: es) X.env = (false, eval e X.env) :: starEach es X.env := by rfl) (hpl : (backTo pos (starEach es X.env)).any (·.1) = false := by rfl) : XEX X (WE W) cs (.Call (.Name x p) (e :: es) [] pos) (post a) (exc a) := by
  obtain ⟨rfl, rfl, rfl, rfl, rfl⟩ : X.prog = P ∧ X.w = w ∧ X.K = K ∧ X.mg = mg ∧ X.base = base := ⟨nm.hP, nm.hw, nm.hK, nm.hmg, nm.hbase⟩
  refine .mk fun en hx Q q => ?_
  obtain ⟨f, fd, ps, F, hm, hk, hb⟩ := C
  refine ⟨_, pe_callS F (nm.room.mono hj) (nm.gl x hg.mem).1 hm hk hb (fun σ => passAt tk σ) pa_v (nm.gl x hg.mem).2.1 he hpl, ha en fun vs G1 H1 x1 r1 => ⟨a, G1, x1.gh, r1, fun v G' H' c pc x2 r2 => q v G' H' c pc (x1.trans x2) (r2.base x1.eh), fun cls G' H' hc x2 => hx cls G' H' hc (x1.trans x2)⟩⟩
/-- .. whose argument is told by a promise -/
theorem calXP (nm : Nm X P w K mg base k M GL BL) {x : Str} {j : Nat} {α : Type} {pre : α → List Cell} {post : α → Cell → Prop} {exc : α → Value → Prop} {W : WX} (tk : Takes X W) (C : CalX P w K mg base x j (ConX K pre post exc)) (hj : j ≤ k) (hg : Has GL x) {e : Expr} {es : List Expr} {R R' : Cell → Prop} {xc : Value → Prop} {cl : List Cell} (he : XEP X cs e R) (n : ∀ c, R c → c ≠ .un) (hes : XA X cs es cl)
    (ha : ∀ c, R c → ∃ a, pre a = c.fr :: cl ∧ (∀ c', post a c' → R' c') ∧ ∀ v, exc a v → xc v) (hs : starEach (e :: es) X.env = (false, eval e X.env) :: starEach es X.env := by rfl) (hpl : (backTo pos (starEach es X.env)).any (·.1) = false := by rfl) :
    XEX X (WE W) cs (.Call (.Name x p) (e :: es) [] pos) R' xc := by
  obtain ⟨rfl, rfl, rfl, rfl, rfl⟩ : X.prog = P ∧ X.w = w ∧ X.K = K ∧ X.mg = mg ∧ X.base = base := ⟨nm.hP, nm.hw, nm.hK, nm.hmg, nm.hbase⟩
  refine .mk fun en hx Q q => ?_
  obtain ⟨f, fd, ps, F, hm, hk, hb⟩ := C
  refine ⟨_, pe_callS F (nm.room.mono hj) (nm.gl x hg.mem).1 hm hk hb (fun σ => passAt tk σ) (pa_cons pe_v pa_v hs) (nm.gl x hg.mem).2.1 hs hpl, he en fun v G1 H1 c pc x1 r1 => ?_⟩
  obtain ⟨G2, x2, _, r2⟩ := r1.seal x1 (n c pc)
  obtain ⟨a, ea, h1, h2⟩ := ha c pc
  refine hes (en.step x2) fun vs G3 H3 x3 r3 => ⟨a, G3, x3.gh, by rw [ea]; exact .cons (r2.mono x3.eg) r3, fun v G' H' c pc x4 r4 => q v G' H' c (h1 c pc) ((x2.trans x3).trans x4) (r4.base (x2.trans x3).eh), fun cls G' H' hc x4 => hx cls G' H' (h2 _ hc) ((x2.trans x3).trans x4)⟩
/-- f(..), f may raise -/
theorem x_exprX {e : Expr} {R : Cell → Prop} {xc : Value → Prop} (he : XEX X Po.E cs e R xc) (hx : ∀ v, xc v → Po.ex v) (kk : (∃ c, R c) → Po.nx cs) (hs : swapsWith e none pos.line X.env = pure false := by rfl) : XS X cs (.Expr e pos) Po := .mk fun en D r =>
  ⟨_, ps_expr pe_v hs, he.run en (fun cls G' H' hc x => r.ex cls _ G' H' (hx _ hc) (en.ext.trans x) x.eg) fun v G' H' c hc x1 r1 => r.nx _ _ _ _ (kk ⟨c, hc⟩) (en.step x1) x1.eg⟩
theorem x_retX {e : Expr} {R : Cell → Prop} {xc : Value → Prop} (he : XEX X Po.E cs e R xc) (hx : ∀ v, xc v → Po.ex v) (kk : ∀ c, R c → Po.rt c) : XS X cs (.Return (some e) pos) Po := .mk fun en D r =>
  ⟨_, ps_ret pe_v, he.run en (fun cls G' H' hc x => r.ex cls _ G' H' (hx _ hc) (en.ext.trans x) x.eg) fun v G' H' c hc x1 r1 => r.rt v G' H' c (kk c hc) (en.ext.trans x1) x1.eg (r1.base en.ext.eh)⟩
/-- xs.extend(e), e may raise -/
theorem x_extX (nm : Nm X P w K mg base k M GL BL) {x : Str} {e : Expr} {ds : List PyData} {R : Cell → Prop} {xc : Value → Prop} {ap : Pos} (h : Sel M cs x (.own ds)) (he : XEX X Po.E cs e R xc) (hx : ∀ v, xc v → Po.ex v)
    (kk : ∀ c, R c → ∃ es cs', c = .own es ∧ ds.length + es.length ≤ 100000 ∧ Upd M cs x (.own (ds ++ es)) cs' ∧ Po.nx cs')
    (hbase : attributeBase (.Name x p) "extend" X.env (eval (.Name x p) X.env) = eval (.Name x p) X.env := by rfl)
    (hfew : ((backTo pos' (starEach [e] X.env)).all (fun x => !x.1) && (backToKw pos' (keywordEach [] X.env)).all (fun x => x.1.isSome) && decide (([e] : List Expr).length + ([] : List Keyword).length + (if ([] : List Keyword).isEmpty then 0 else 1) < 30)) = true := by rfl)
    (hline : (ap.endLine == pos'.line) = true := by rfl) (hst : starEach [e] X.env = (false, eval e X.env) :: starEach [] X.env := by rfl) (hplain : (backTo pos' (starEach [] X.env)).any (·.1) = false := by rfl)
    (hs : swapsWith (.Call (.Attribute (.Name x p) "extend" ap) [e] [] pos') none pos.line X.env = pure false := by rfl) :
    XS X cs (.Expr (.Call (.Attribute (.Name x p) "extend" ap) [e] [] pos') pos) Po := .mk fun {G0 H0 G H σ} en D r => by
  obtain ⟨i, h1, h2⟩ := h.ix
  have hm := List.mem_of_getElem? h1
  refine ⟨_, ps_expr (pe_bm PySem.F.plainAttrs_list PySem.F.slot_list_extend PySem.F.type_list_extend mt_extend (pe_var (nm.pre i x h1) (nm.vis x hm) (nm.dbg x hm).1 (nm.dbg x hm).2) (pa_cons pe_v pa_nil hst) hbase hfew hline hst hplain) hs, ?_⟩
  obtain ⟨v, hv, q, ts, rfl, g0, g1, g2, g3⟩ := en.ok i _ h2 (fun z => by cases z)
  refine ⟨_, hv, .inl ⟨rfl, _, SqL.of g2⟩, he.run en (fun cls G' H' hc x => r.ex cls _ G' H' (hx _ hc) (en.ext.trans x) x.eg) fun u G' H' c hc x1 r1 => ?_⟩
  obtain ⟨es, cs', rfl, hl, hu, kk⟩ := kk c hc
  obtain ⟨i', h1', rfl⟩ := hu.ix
  have : i = i' := nodup_ix nm.nd (nm.pre i x h1) (nm.pre i' x h1')
  subst this
  obtain ⟨b, zs, rfl, k0, k1, k2, k3⟩ := r1
  refine ⟨q, b, ts, zs, rfl, rfl, x1.eh _ _ g2, k2, by rw [dpa_len g3, dpa_len k3]; exact Evl.sz_of hl, ?_⟩
  exact r.nx _ _ _ _ kk ((en.step x1).mutL h2 hv (dpa_append (dpa_mono x1.eg _ _ g3) k3)) x1.eg
/-- an exception class of one's own -/
structure ExcOk (K : PySem.W.Frag) (mg : Str → Option Value) (x : Str) (C : Addr) : Prop where
  gC : mg x = some (.ref C)
  q : PySem.W.excIn K C [.type "ValueError", .type "Exception", .type "BaseException", .type "object"] "ValueError.__new__" = true
  kC : PySem.W.keepIn K (.ref C) = true
  sB : PySem.W.subIn K (.ref C) (.type "BaseException") = some true
  tC : PySem.W.typeIn K (.ref C) = some (.type "type")
/-- raise X('m') -/
theorem x_raise (nm : Nm X P w K mg base k M GL BL) {x m : Str} {j : Nat} {C : Addr} {W : WX} (tk : Takes X W) (c : ExcOk K mg x C) (hg : Has GL x) (hE : Po.E = WE W) (hx : Po.ex (.ref C)) : XS X cs (.Raise (some (.Call (.Name x p) [.Constant (.str m) j p2] [] pos)) none pos') Po := by
  obtain ⟨rfl, rfl, rfl, rfl, rfl⟩ : X.prog = P ∧ X.w = w ∧ X.K = K ∧ X.mg = mg ∧ X.base = base := ⟨nm.hP, nm.hw, nm.hK, nm.hmg, nm.hbase⟩
  refine .mk fun {G0 H0 G H σ} en D r => ⟨_, ps_raise nm.calm tk (pmk_own PySem.F.excBase_ValueError c.q c.gC c.kC (raises_own c.sB c.tC) (nm.gl x hg.mem).1 (nm.gl x hg.mem).2.1), ?_⟩
  have := r.ex (.ref C) σ G H hx en.ext (Evl.Ex.refl _)
  rw [hE] at this
  exact this
/-- raise X(e) -/
theorem x_raise1 (nm : Nm X P w K mg base k M GL BL) {x : Str} {e : Expr} {C : Addr} {W : WX} {d : PyData} (tk : Takes X W) (c : ExcOk K mg x C) (hg : Has GL x) (hE : Po.E = WE W) (hx : Po.ex (.ref C)) (he : XE X cs e (.dat d)) (hs : starEach [e] X.env = (false, eval e X.env) :: starEach [] X.env := by rfl) : XS X cs (.Raise (some (.Call (.Name x p) [e] [] pos)) none pos') Po := by
  obtain ⟨rfl, rfl, rfl, rfl, rfl⟩ : X.prog = P ∧ X.w = w ∧ X.K = K ∧ X.mg = mg ∧ X.base = base := ⟨nm.hP, nm.hw, nm.hK, nm.hmg, nm.hbase⟩
  refine .mk fun {G0 H0 G H σ} en D r => ⟨_, ps_raise nm.calm tk (SkE.pmk_own1 PySem.F.excBase_ValueError c.q c.gC c.kC (raises_own c.sB c.tC) (nm.gl x hg.mem).1 pe_v hs (nm.gl x hg.mem).2.1), he en fun v G' H' x r1 => ?_⟩
  have := r.ex (.ref C) σ G' H' hx (en.ext.trans x) x.eg
  rw [hE] at this
  exact this
end
/-! ### a def that may raise keeps its promise -/
section
variable {P : Program} {w : World} {K : PySem.W.Frag} {mg : Str → Option Value} {base : Heap}
theorem nm_fnX {N ps : List Str} {qual : Str} {sc : Scope} {f : Addr} {cdv : Value} {A : Around} {outer : List PySem.Env} {s : Shared} {H : Hp} {E : XK} {k : Nat} (M : List (Option Str)) (GL BL : List Str)
    (S : FnScope N ps sc) (hc : chk sc M GL = true) (hM : preB M N = true) (hb : ∀ x ∈ BL, mg x = none) (hr : Room k (A.deeper (envOfC qual sc s.heap.objs.size f cdv))) :
    Nm (cxOf (L2.CX P w) P w K mg base N qual sc f cdv A outer s H E) P w K mg base k M GL BL ∧ Nd (cxOf (L2.CX P w) P w K mg base N qual sc f cdv A outer s H E) M := by
  obtain ⟨n, d⟩ := nm_fn (P := P) (w := w) (K := K) (mg := mg) (base := base) (f := f) (cdv := cdv) (A := A) (outer := outer) (s := s) (H := H) (E := E) M GL BL S hc hM hb hr
  exact ⟨⟨rfl, rfl, rfl, rfl, rfl, hr, n.pre, n.nd, rfl, n.dbg, n.vis, n.gl, n.bl⟩, ⟨d.loc, passes_of rfl⟩⟩
theorem fnX_con {x qual : Str} {st : Stmt} {f : Addr} {fd : FuncData} {N ps : List Str} {k : Nat} {α : Type} {pre : α → List Cell} {post : α → Cell → Prop} {exc : α → Value → Prop} (F : Fun K x qual st f fd) (S : FnScope N ps (defScope st)) (hl : ∀ a, (pre a).length = ps.length)
    (hb : ∀ (cdv : Value) (A : Around) (outer : List PySem.Env) (s : Shared) (H : Hp) (E : XK), Room k (A.deeper (envOfC qual (defScope st) s.heap.objs.size f cdv)) → Takes (cxOf (L2.CX P w) P w K mg base N qual (defScope st) f cdv A outer s H E) (fun cls d _ H => E cls d H) → ∀ a : α,
      XSs (cxOf (L2.CX P w) P w K mg base N qual (defScope st) f cdv A outer s H E) (pre a ++ List.replicate (N.length - ps.length) .un) (defBody st) { nx := fun _ => post a (.dat .none), rt := post a, ex := exc a, E := WE (fun cls d _ H => E cls d H) }) :
    FnOk P w K mg base (L2.CX P w) (k + 1) f fd ps (ConX K pre post exc) := by
  refine F.okX S (fun vs H Q E h => ?_) (fun cdv A outer s H vs Q E hr h => ?_)
  · obtain ⟨a, G, _, hp, _⟩ := h
    rw [paired_len hp, hl a]
  · obtain ⟨a, G, gh, hp, q, qx⟩ := h
    have hlen : vs.length = ps.length := by rw [paired_len hp, hl a]
    refine ⟨_, pss_v, hb cdv A outer s H E hr (takes_of rfl rfl rfl rfl) a (Env.start (K := K) (G := G) (H := H) (fun i c hc n => ?_) gh ?_) ⟨fun G' H' σ' cs' a1 b c => ?_, fun v G' H' c a1 x _ r => ?_, fun _ _ _ _ z => z.elim, fun _ _ _ _ z => z.elim, fun cls _ G' H' hc x _ => qx cls G' H' hc x⟩⟩
    · have hc' : (pre a)[i]? = some c := by
        by_cases hi : i < (pre a).length
        · rw [List.getElem?_append_left hi] at hc
          exact hc
        · rw [List.getElem?_append_right (by omega)] at hc
          have := List.mem_of_getElem? hc
          rw [List.mem_replicate] at this
          exact absurd this.2 n
      obtain ⟨v, h1, h2⟩ := paired_get hp hc'
      refine ⟨v, ?_, h2⟩
      have hi : i < vs.length := (List.getElem?_eq_some_iff.mp h1).1
      unfold L2.start
      rw [List.getElem?_append_left (by rw [List.length_map]; exact hi), List.getElem?_map, h1]
      rfl
    · unfold L2.start
      rw [List.length_append, List.length_map, List.length_replicate, List.length_append, List.length_replicate, hl a, hlen]
    · exact q _ G' H' _ a1 b.ext .non
    · exact q v G' H' c a1 x r
end
end Fw

set_option maxRecDepth 100000
set_option maxHeartbeats 4000000
/-! try: f(..) except C as e: .. -/
namespace Fw
open PySem PySem.Spec PyProof.Rows L2
open Evl (Ex)
def unset (i : Nat) (D : Ends) : Ends := { nx := fun σ' H' => D.nx (σ'.set i none) H', rt := D.rt, bk := fun σ' H' => D.bk (σ'.set i none) H', ct := fun σ' H' => D.ct (σ'.set i none) H' }
section
variable {X : Cx} {P : Program} {w : World} {K : PySem.W.Frag} {mg : Str → Option Value} {base : Heap} {k : Nat} {M : List (Option Str)} {GL BL : List Str} {cs cs' : List Cell} {pos p pos' p1 p2 p3 : Pos} {Po : Po}
theorem Nm.tr (nm : Nm X P w K mg base k M GL BL) (pn : List (Addr × Obj)) (xe : Value → Shared → Prop) : Nm (X.tr pn xe) P w K mg base k M GL BL := ⟨nm.hP, nm.hw, nm.hK, nm.hmg, nm.hbase, nm.room, nm.pre, nm.nd, nm.calm, nm.dbg, nm.vis, nm.gl, nm.bl⟩
theorem x_tryAs {e : Expr} {epos np : Pos} {x n : Str} {i : Nat} {c : Value} {b₀ : Stmt} {suite : List Stmt} {R : Cell → Prop} {xc : Value → Prop} (hs : X.stack = X.env :: X.outer) (hf : X.env.frame = some X.env.locals) (hN : X.N.Nodup) (hi : X.N[i]? = some n) (hln : X.env.kindOf n = some .local) (hc : Names X x c)
    (he : ∀ (W : WX) (pn : List (Addr × Obj)) (xe : Value → Shared → Prop), Takes (X.tr pn xe) W → XEX (X.tr pn xe) (WE W) cs e R xc) (kk : (∃ c, R c) → Po.nx cs) (hx : ∀ cls, xc cls → PySem.W.exmOne X.K cls c = some true)
    (hsu : ∀ cls, xc cls → ∀ (a : Addr) (oe : Obj) (pn : List (Addr × Obj)), Zc cls none oe → (∃ vs, oe.data = .fields vs) → ∀ {G0 H0 G H : Hp} {σ : L2.St}, Env X.K G0 H0 G H σ cs → H a = none → ∀ {D : Ends}, Run X.K G0 H0 G Po D → vSs (X.suite a ((a, oe) :: pn)) (b₀ :: suite) (unset i D) (σ.set i (some (.ref a))) H)
    (hsw : swapsWith e none epos.line X.env = pure false := by rfl) : XS X cs (.Try [.Expr e epos] [.ExceptHandler (some (.Name x np)) (some n) (b₀ :: suite) pos'] [] [] pos) Po := .mk fun {G0 H0 G H σ} en D r =>
  ⟨_, ps_try_as (Wout := fun _ _ _ _ => False) (tb := fun W D σ H => ∀ (pn : List (Addr × Obj)) (xe : Value → Shared → Prop), Takes (X.tr pn xe) W → vSs (X.tr pn xe) [.Expr e epos] D σ H) (ts := fun a cls d D σ H => ∀ (oe : Obj) (pn : List (Addr × Obj)), Zc cls d oe → (∃ vs, oe.data = .fields vs) → vSs (X.suite a ((a, oe) :: pn)) (b₀ :: suite) D σ H)
    hs hf hN hi hln hc takes0 (fun W pn xe tk _ => ⟨fun pins s σ H D I h => pss_v.run pins s σ H D I (h pn xe tk)⟩) (fun a oe cls d pn hz hf => ⟨fun pins s σ H D I h => pss_v.run pins s σ H D I (h oe pn hz hf)⟩), fun pn xe tk =>
    ⟨_, pss_cons (ps_expr pe_v hsw) pss_nil, (he _ pn xe tk).run en (fun cls G' H' hcl x1 => ⟨true, hx cls hcl, fun _ a na oe pn hz hf => hsu cls hcl a oe pn hz hf (en.step x1) na (r.mono x1.eg), fun z => by cases z⟩) fun v G' H' c hc x1 _ => r.nx _ _ _ _ (kk ⟨c, hc⟩) (en.step x1) x1.eg⟩⟩
end
/-- what an own exception class says, so that isinstance asks its instances rightly -/
structure ExcFull (K : PySem.W.Frag) (mg : Str → Option Value) (x : Str) (C : Addr) : Prop where
  ok : ExcOk K mg x C
  c : ExcC K C
  cl : PySem.W.isClsIn K C = true
theorem kit_own {K : PySem.W.Frag} {mg : Str → Option Value} {x : Str} {C D : Addr} {b : Bool} (h : ExcFull K mg x C) (hs : PySem.W.subIn K (.ref D) (.ref C) = some b) (hne : D = C → b = true) : PySem.W.kitOne K (.ref D) (.ref C) = some b := by
  unfold PySem.W.kitOne
  by_cases e : D = C
  · subst e
    rw [hne rfl]
    simp
  · have : ((Value.ref D == Value.ref C) = true) = False := by simp [e]
    rw [if_neg (by simp [e])]
    have h2 : (PySem.W.clsIn K C).isSome = true := h.cl
    show (if ((PySem.W.clsIn K C).isSome && PySem.W.typeIn K (.ref C) == some (.type "type")) = true then PySem.W.subIn K (.ref D) (.ref C) else none) = some b
    rw [h2, h.ok.tC]
    exact hs
theorem exm_own {K : PySem.W.Frag} {mg : Str → Option Value} {x : Str} {C : Addr} {cls : Value} {b : Bool} (h : ExcFull K mg x C) (hs : PySem.W.subIn K cls (.ref C) = some b) : PySem.W.exmOne K cls (.ref C) = some b := PySem.W.exm_ref h.ok.sB h.c.hd h.ok.tC hs
end Fw
namespace Fw
open PySem PySem.Spec PyProof.Rows L2
theorem kit_valueError {K : PySem.W.Frag} {D : Addr} {b : Bool} (h : PySem.W.subIn K (.ref D) (.type "ValueError") = some b) : PySem.W.kitOne K (.ref D) (.type "ValueError") = some b := by
  unfold PySem.W.kitOne
  rw [if_neg (show ¬ ((Value.ref D == Value.type "ValueError") = true) from by simp)]
  show (if PySem.W.kitMeta "ValueError" = true then PySem.W.subIn K (.ref D) (.type "ValueError") else none) = some b
  rw [if_pos (by decide +kernel)]
  exact h
theorem kit_self {K : PySem.W.Frag} {D : Addr} : PySem.W.kitOne K (.ref D) (.ref D) = some true := by
  unfold PySem.W.kitOne
  rw [if_pos (by simp)]
end Fw

set_option maxRecDepth 100000
set_option maxHeartbeats 4000000
/-! sorted; a place of a dict that is told by a promise -/
namespace Fw
open PySem PySem.Spec PyProof.Rows L2
open Evl (Ex)
theorem dpa_perm {G : Hp} {us vs : List V} (hp : us.Perm vs) : ∀ {ds : List PyData}, DtA G vs ds → ∃ es : List PyData, es.Perm ds ∧ DtA G us es := by
  induction hp with
  | nil => exact fun {ds} h => ⟨ds, List.Perm.refl _, h⟩
  | cons x _ ih =>
    intro ds h
    cases h with
    | cons h1 h2 =>
      obtain ⟨es, p, q⟩ := ih h2
      exact ⟨_ :: es, p.cons _, .cons h1 q⟩
  | swap x y l =>
    intro ds h
    cases h with
    | cons h1 h2 =>
      cases h2 with
      | cons h2 h3 => exact ⟨_, List.Perm.swap _ _ _, .cons h2 (.cons h1 h3)⟩
  | trans _ _ ih1 ih2 =>
    intro ds h
    obtain ⟨es, p, q⟩ := ih2 h
    obtain ⟨es', p', q'⟩ := ih1 q
    exact ⟨es', p'.trans p, q'⟩
section
variable {X : Cx} {P : Program} {w : World} {K : PySem.W.Frag} {mg : Str → Option Value} {base : Heap} {k : Nat} {M : List (Option Str)} {GL BL : List Str} {cs cs' : List Cell} {pos p pos' p1 p2 p3 : Pos} {Po : Po}
theorem XEX.calm {E : L2.St → XK} {e : Expr} {R : Cell → Prop} {xc : Value → Prop} (h : XEX X E cs e R xc) (hn : ∀ v, ¬ xc v) : XEP X cs e R := .mk fun en Q q => h.run en (fun cls _ _ hc _ => absurd hc (hn cls)) q
/-- sorted(e) of pairs of numbers -/
theorem xep_sortedP (nm : Nm X P w K mg base k M GL BL) {e : Expr} {ds : List PyData} (hg : Has GL "sorted") (hb : Has BL "sorted") (he : XE X cs e (.dat (.list ds))) (h : ∀ d ∈ ds, ∃ i j, d = .tuple [.int i, .int j]) (hs : starEach [e] X.env = (false, eval e X.env) :: starEach [] X.env := by rfl) (hpl : (backTo pos (starEach [] X.env)).any (·.1) = false := by rfl) :
    XEP X cs (.Call (.Name "sorted" p) [e] [] pos) (fun c => ∃ es, es.Perm ds ∧ c = .own es) := .mk fun en Q q =>
  ⟨_, pe_callB cr_sortedP (nm.gl _ hg.mem).1 (by rw [nm.hmg]; exact nm.bl _ hb.mem) bb_sorted (pa_cons pe_v pa_nil hs) (by decide) (by decide) hs hpl, he en fun v G' H' x r => by
    cases r with
    | @lst a xs _ hsq ha =>
      refine ⟨a, xs, rfl, SqL.of (x.gh _ _ hsq), fun y hy => ?_, fun ys l hp hl => ?_⟩
      · obtain ⟨i, hi⟩ := List.mem_iff_getElem?.mp hy
        obtain ⟨d, hd, r⟩ := dpa_getV ha hi
        obtain ⟨i1, j1, rfl⟩ := h d (List.mem_of_getElem? hd)
        cases r with
        | @tup t ws _ ht hw =>
          cases hw with
          | cons r1 hw =>
          cases hw with
          | cons r2 hw =>
          cases hw
          cases r1
          cases r2
          exact ⟨t, i1, j1, rfl, x.gh _ _ ht⟩
      · obtain ⟨es, p1, q1⟩ := dpa_perm hp ha
        exact q _ G' _ _ ⟨es, p1, rfl⟩ (x.trans (Ext.heap x.gh (Evl.Ex.new hl))) ⟨l, ys, rfl, Evl.fresh_back x.eh hl, Evl.fresh_back x.gh hl, upd_same, q1⟩⟩
/-- e[i], e a dict told by a promise -/
theorem xe_dgP (nm : Nm X P w K mg base k M GL BL) {i o : Expr} {kd v : PyData} {kk : Key} {R : Cell → Prop} (hd : XEP X cs o R) (hk : XE X cs i (.dat kd)) (hkd : keyD kd = some kk) (hv : ∀ c, R c → ∃ kvs, c = .odi kvs ∧ lookD kvs kk = some v) (hs : NoSl i := by exact fun _ _ => rfl) : XE X cs (.Subscript o i pos) (.dat v) := .mk fun en Q q =>
  ⟨_, pe_dget nm.hu1 pe_v pe_v hs, hd en fun u G1 H1 c pc x1 r => hk (en.step x1) fun y G2 H2 x2 r2 => by
    obtain ⟨kvs, rfl, hv⟩ := hv c pc
    obtain ⟨a, hs, e1, _, _, h1, h2⟩ := r
    subst e1
    have ek := key_of r2 hkd
    subst ek
    obtain ⟨u, hu, ru⟩ := kv_some h2 hv
    exact ⟨a, u, rfl, dget_of (Rd.of (x2.eh _ _ h1)) hu, q u G2 H2 (x1.trans x2) (dp_mono x2.eg _ _ ru)⟩⟩
end
theorem cutP_mid {A B : List PyData} {xs : List PyData} {a b : Int} (ha : a = A.length) (hb : b = (A.length + xs.length : Nat)) : cutP (A ++ (xs ++ B)) (some a) (some b) = xs := by
  subst ha
  subst hb
  unfold cutP
  have l : (A ++ (xs ++ B)).length = A.length + (xs.length + B.length) := by rw [List.length_append, List.length_append]
  rw [show HT.sIx (A ++ (xs ++ B)).length 0 (some ((A.length : Nat) : Int)) = min A.length (A ++ (xs ++ B)).length from HT.sIx_nat _ _ _, show HT.sIx (A ++ (xs ++ B)).length (A ++ (xs ++ B)).length (some ((A.length + xs.length : Nat) : Int)) = min (A.length + xs.length) (A ++ (xs ++ B)).length from HT.sIx_nat _ _ _]
  rw [l, Nat.min_eq_left (by omega), Nat.min_eq_left (by omega), List.drop_append_of_le_length (Nat.le_refl _), List.drop_length, List.nil_append, show A.length + xs.length - A.length = xs.length by omega, List.take_append_of_le_length (Nat.le_refl _), List.take_length]
end Fw

set_option maxRecDepth 100000
set_option maxHeartbeats 4000000
namespace L2
open PySem PySem.Spec PyProof.Rows
section
variable {X : Cx}
/-- range(n) as a value -/
theorem cr_range1 : CallR X (.type "range") (fun vs H Q => ∃ n, vs = [V.int n] ∧ ∀ p, H p = none → Q (.ref p) (upd H p (.rng 0 n))) := by
  intro pins s σ H vs us Q I r h
  obtain ⟨n, rfl, q⟩ := h
  cases r with
  | cons r rr =>
    cases rr
    obtain ⟨t, rfl⟩ := r
    refine call_range_1 ⟨.ref s.heap.objs.size, upd H s.heap.objs.size (.rng 0 n), I.laid (t' := s.toks + 1 + 1) (fun b o e => Heap.get?_push_of_some _ e) (Nat.le_refl _) ?_, rfl, q _ (I.hok.fresh (Nat.le_refl _))⟩
    exact ⟨s.toks, t, s.toks + 1, Heap.get?_push_size _ rfl⟩
/-- a range walked by a name -/
def iRngV (te : TE) : TI := fun σ H R => te σ H fun x H1 => ∃ a lo hi, x = .ref a ∧ H1 a = some (.rng lo hi) ∧ (-(2 ^ 62) ≤ lo ∧ lo < 2 ^ 62 ∧ -(2 ^ 62) ≤ hi ∧ hi < 2 ^ 62) ∧ R (Itr lo (hi - lo).toNat) H1
theorem pi_rngV {tg l : Expr} {tl : TE} (hl : PE X l tl) : PI X tg l (iRngV tl) := by
  refine ⟨fun pins s σ H R I h => ?_⟩
  refine thn (hl.run pins s σ H _ I h) fun v s1 ⟨x, H1, I1, r1, q1⟩ => ?_
  obtain ⟨a, lo, hi, e, hx, ⟨h1, h2, h3, h4⟩, q⟩ := q1
  subst e
  cases r1
  obtain ⟨t, u, w', hg⟩ : ∃ t u v, s1.heap.get? a = some { cls := .type "range", data := .fields #[.int lo t, .int hi u, .int 1 v] } := I1.hok a _ hx
  refine wpAny_pyIter_range (show IsRange s1.heap a lo hi 1 t u w' from hg) (small_one h1 h2 h3 h4) ?_
  refine ⟨s1.heap.objs.size, [s1.heap.objs.size], _, _, H1, rfl, I1.kept (t' := s1.toks) fun b o e => Heap.get?_push_of_some _ e, turn_range _ lo (hi - lo).toNat, ?_, fun b hb => ?_, q⟩
  · have e1 : lo + ((0 : Nat) : Int) * 1 = lo := by simp
    have e2 : (((hi - lo).toNat : Nat) : Int) - ((0 : Nat) : Int) = Builtin.Range.rangeSize lo hi 1 := by rw [rangeSize_one]; split <;> omega
    show IsRangeIter _ _ (lo + ((0 : Nat) : Int) * 1) ((((hi - lo).toNat : Nat) : Int) - ((0 : Nat) : Int)) 1
    rw [e1, e2]
    exact Heap.get?_push_size _ rfl
  · have e : b = s1.heap.objs.size := by simpa using hb
    subst e
    exact I1.fpOk (Nat.le_refl _) (I1.hok.fresh (Nat.le_refl _))
end
end L2
namespace Fw
open PySem PySem.Spec PyProof.Rows L2
open Evl (Ex)
theorem bb_range : bootBuiltins "range" = some (.type "range") := by decide +kernel
section
variable {X : Cx} {P : Program} {w : World} {K : PySem.W.Frag} {mg : Str → Option Value} {base : Heap} {k : Nat} {M : List (Option Str)} {GL BL : List Str} {cs cs' : List Cell} {pos p pos' p1 p2 p3 : Pos} {Po : Po}
/-- range(n) kept -/
theorem xe_rng (nm : Nm X P w K mg base k M GL BL) {a : Expr} {n : Nat} (hg : Has GL "range") (hb : Has BL "range") (h : XE X cs a (.dat (.int (n : Nat)))) (hs : starEach [a] X.env = (false, eval a X.env) :: starEach [] X.env := by rfl) (hpl : (backTo pos (starEach [] X.env)).any (·.1) = false := by rfl) : XE X cs (.Call (.Name "range" p) [a] [] pos) (.rng n) := .mk fun en Q q =>
  ⟨_, pe_callTy cr_range1 (nm.gl _ hg.mem).1 (by rw [nm.hmg]; exact nm.bl _ hb.mem) bb_range (pa_cons pe_v pa_nil hs) (by decide) (by decide) hs hpl, h en fun v G' H' x r => by
    cases r
    refine ⟨n, rfl, fun l hl => ?_⟩
    have xn := Ext.new (o := .rng 0 (n : Nat)) x.gh hl
    exact q _ _ _ (x.trans xn) ⟨l, rfl, upd_same⟩⟩
theorem xi_rng {tg it : Expr} {n : Nat} (hb : n < 2 ^ 62) (h : XE X cs it (.rng n)) : XI X cs tg it (rangeD 0 n) := .mk fun en R q => ⟨_, pi_rngV pe_v, h en fun v G' H' x ⟨a, e1, h1⟩ => by
  refine ⟨a, 0, n, e1, x.gh _ _ h1, ⟨by decide, by decide, by omega, by omega⟩, ?_⟩
  have := q (Itr 0 n) G' H' x (walk_rng (lo := 0) (n := n))
  rw [show ((n : Int) - 0).toNat = n by omega]
  exact this⟩
/-- [elt for k in d if ..] -/
theorem xe_lcKeys {elt : Expr} {ifs : List Expr} {scope : Scope} {x y : Str} {j i : Nat} {kvs : List (Key × PyData)} {tpos : Pos} (acc : Nat → List PyData) (h0 : acc 0 = []) (hn : kvs.length ≤ 90000)
    (hN : X.N[i]? = some y) (hv : Vis X.env.scope y) (hd : (y == ("__debug__" : Str)) = false) (hcd : (y == ("__classdict__" : Str)) = false) (hsl : (cs.map Cell.lk)[i]? = some (.ldc kvs))
    (ok : BlkOk X.N X.env.scope scope [(x, j)]) (hc : X.calm = true) (hNd : X.N.Nodup) (hj : X.N[j]? = some x) (hx : ∀ B : Bk, Loc (B.cx X scope).env.scope x) (hfn : ∀ B : Bk, (B.cx X scope).fn x = true ∨ (B.cx X scope).env.scope.names.lookup x = some .local)
    (hs : ∀ i d, (keysD kvs)[i]? = some d → ∃ b, (∀ B : Bk, XTs (B.cx X scope) ((cs.map Cell.lk).set j (.dat d)) ifs b) ∧ (b = true → ∃ y, (∀ B : Bk, XE (B.cx X scope) ((cs.map Cell.lk).set j (.dat d)) elt (.dat y)) ∧ acc (i + 1) = acc i ++ [y]) ∧ (b = false → acc (i + 1) = acc i)) :
    XE X cs (.ListComp elt [⟨.Name x tpos, .Name y p, ifs, 0⟩] scope pos) (.own (acc kvs.length)) := .mk fun {G0 H0 G H σ} en0 Q q => by
  have en := env_lk en0
  have kl : (keysD kvs).length = kvs.length := by unfold keysD; rw [List.length_map]
  obtain ⟨v, hv1, d, hs', rfl, rd, kv⟩ := en.ok i _ hsl (by intro z; cases z)
  have core : ∀ {G0 H0 G H : Hp} {o : Obj} {Q : VK}, Env X.K G0 H0 G H σ (cs.map Cell.lk) → G d = some (.frz o (.dK hs')) → KvOk G hs' kvs → (∀ v G' H', Ext G H G' H' → ROk X.K H G' H' v (.own (acc kvs.length)) → Q v H') → tLc (vI X (.Name x tpos) (.Name y p)) (gName j) (fTs X scope ifs) (fE X scope elt) [j] σ H Q := fun {G0 H0 G H o Q} en hG kv q => by
    refine vi_keys en hN hv hd hcd hv1 hG kv fun J ⟨Y, w, yy⟩ => fun D hD => ?_
    have hGD : G D = none := Evl.fresh_back en.gh hD
    refine lc_it w (fun i H' => ∃ G', Ex G G' ∧ Ext G H G' H' ∧ G' D = none ∧ (acc i).length ≤ i ∧ ∃ ts, H' D = some (.lst ts) ∧ DtA G' ts (acc i)) ?_ (fun i H' _ ⟨G', e, x, _⟩ => e.trans x.gh) ?_ ?_
    · exact ⟨G, Evl.Ex.refl _, (Ext.refl en.gh).mut hD hGD, hGD, by rw [h0]; exact Nat.zero_le _, [], upd_same, by rw [h0]; exact .nil⟩
    · rintro i x H' H2 hi' ⟨G', e, x', gD, hl, ts, hts, ha⟩ yv
      obtain ⟨G2, d, x2, hd, r2⟩ := yy i H' x H2 hi' (e.trans x'.gh) yv G' e x'.gh
      refine ⟨wipe_set1, ?_⟩
      have env2 : Env X.K G0 H0 G2 H2 ((wipe σ [j]).set j (some x)) ((cs.map Cell.lk).set j (.dat d)) := by
        have e1 := ((en.step (x'.trans x2)).wipe j).set (Ext.refl x2.gh) (c := .dat d) (v := x) r2 j
        rw [List.set_set (l := cs.map Cell.lk)] at e1
        exact e1
      obtain ⟨b, hb, h1, h2⟩ := hs i d hd
      intro B
      refine hb B env2 fun H3 e3 => ?_
      have x3 : Ext G H G2 H3 := (x'.trans x2).trans (Ext.heap x2.gh e3)
      have g2D : G2 D = none := x2.apart gD hts
      have h3D : H3 D = some (.lst ts) := e3 _ _ (x2.eh _ _ hts)
      cases b with
      | true =>
        rw [if_pos rfl]
        obtain ⟨z, hz, ea⟩ := h1 rfl
        intro B'
        refine hz B' (env2.step (Ext.heap x2.gh e3)) fun v G4 H4 x4 r4 => ?_
        have g4D : G4 D = none := x4.apart g2D h3D
        refine ⟨ts, x4.eh _ _ h3D, by rw [dpa_len ha]; exact Evl.sz_lt (by rw [kl] at hi'; omega), G4, (e.trans x2.eg).trans x4.eg, (x3.trans x4).mut hD g4D, g4D, by rw [ea, List.length_append]; exact Nat.add_le_add hl (Nat.le_refl 1), _, upd_same, ?_⟩
        rw [ea]
        exact dpa_append (dpa_mono (x2.eg.trans x4.eg) _ _ ha) (dpa_one r4)
      | false =>
        rw [if_neg (by decide)]
        refine ⟨G2, e.trans x2.eg, x3, g2D, by rw [h2 rfl]; exact Nat.le_succ_of_le hl, ts, h3D, ?_⟩
        rw [h2 rfl]
        exact dpa_mono x2.eg _ _ ha
    · rintro H' ⟨G', e, x', gD, hl, ts, hts, ha⟩
      rw [kl] at ha
      exact q _ G' H' x' ⟨D, ts, rfl, hD, gD, hts, ha⟩
  have pe : PE X (.ListComp elt [⟨.Name x tpos, .Name y p, ifs, 0⟩] scope pos) (tLc (vI X (.Name x tpos) (.Name y p)) (gName j) (fTs X scope ifs) (fE X scope elt) [j]) :=
    pe_lc (own := [(x, j)]) (g := gName j) hc hNd pi_v ok (fun s H C cl fp => pg_name hNd hj (hx ⟨s, H, C, cl, fp⟩) (hfn ⟨s, H, C, cl, fp⟩)) (fun s H C cl fp => ⟨fun pins s' σ H' Q I h => pts_v.run pins s' σ H' Q I (h ⟨s, H, C, cl, fp⟩)⟩)
      (fun s H C cl fp => ⟨fun pins s' σ H' Q I h => pe_v.run pins s' σ H' Q I (h ⟨s, H, C, cl, fp⟩)⟩) (by intro _; rfl)
  rcases rd with hG | ⟨o, hG⟩
  · refine ⟨_, pe_lock pe, d, .dK hs', en.gh _ _ hG, trivial, fun od => ?_⟩
    have z := Env.lock (od := od) en hG
    rw [lk_lk] at z
    rw [lkf_upd (en.gh _ _ hG)]
    have zG : lkf d (.frz od (.dK hs')) G d = some (.frz od (.dK hs')) := by rw [lkf_eq, hG]; rfl
    have nq : ∀ w, G d = some w → NoSeq w := fun w hw => by
      rw [hG] at hw
      cases hw
      exact nd_dK
    refine core z zG (kv_lk nq kv) fun v G' H' x r => ?_
    have gd := x.eg _ _ zG
    have hH := x.gh _ _ gd
    refine ⟨hH, ?_⟩
    rw [lkf_upd hH]
    exact q _ _ _ (Ext.unlock (Ext.refl en.gh) hG x x.eg).1 (ROk.unlock gd r)
  · exact ⟨_, pe, core en hG kv q⟩
theorem lcgK (nm : Nm X P w K mg base k M GL BL) {N : List Str} {sc scope : Scope} (hN : X.N = N) (hsc : X.env.scope = sc) {x y : Str} (j : Nat) {elt : Expr} {ifs : List Expr} {kvs : List (Key × PyData)} {tpos : Pos} {cl : List Cell} (acc : Nat → List PyData) (h0 : acc 0 = []) (hn : kvs.length ≤ 90000) (hl : Lk cs cl) (hsl : Sel M cl y (.ldc kvs))
    (hok : lcB N sc scope x j = true)
    (hs : ∀ i d, (keysD kvs)[i]? = some d → ∃ b, (∀ B : Bk, XTs (B.cx X scope) (cl.set j (.dat d)) ifs b) ∧ (b = true → ∃ y, (∀ B : Bk, XE (B.cx X scope) (cl.set j (.dat d)) elt (.dat y)) ∧ acc (i + 1) = acc i ++ [y]) ∧ (b = false → acc (i + 1) = acc i)) :
    XE X cs (.ListComp elt [⟨.Name x tpos, .Name y p, ifs, 0⟩] scope pos) (.own (acc kvs.length)) := by
  subst hN
  subst hsc
  have he := hl.eq
  subst he
  unfold lcB at hok
  rw [Bool.and_eq_true, Bool.and_eq_true] at hok
  obtain ⟨⟨h1, h2⟩, h3⟩ := hok
  have h2' : (relS scope X.env.scope).names.lookup x = some .local := by
    split at h2
    · assumption
    · cases h2
  obtain ⟨i, hi1, hi2⟩ := hsl.ix
  have hm := List.mem_of_getElem? hi1
  exact xe_lcKeys acc h0 hn (nm.pre i y hi1) (nm.vis y hm) (nm.dbg y hm).1 (nm.dbg y hm).2 hi2 (blkOk_by h1) nm.calm nm.nd (of_decide_eq_true h3) (fun B => .inl h2') (fun B => .inr h2') hs
/-- y = xs.pop(), xs one's own -/
theorem x_pop (nm : Nm X P w K mg base k M GL BL) (nd : Nd X M) {x y : Str} {ds : List PyData} {d : PyData} {ap : Pos} {cs1 : List Cell} (h : Sel M cs x (.own (ds ++ [d]))) (hu : Upd M cs x (.own ds) cs1) (hu2 : Upd M cs1 y (.dat d) cs') (kk : Po.nx cs')
    (hbase : attributeBase (.Name x p) "pop" X.env (eval (.Name x p) X.env) = eval (.Name x p) X.env := by rfl)
    (hline : (ap.endLine == pos'.line) = true := by rfl) (hs : swapsWith (.Call (.Attribute (.Name x p) "pop" ap) [] [] pos') (some (.Name y p2)) pos.line X.env = pure false := by rfl) :
    XS X cs (.Assign [.Name y p2] (.Call (.Attribute (.Name x p) "pop" ap) [] [] pos') pos) Po := .mk fun {G0 H0 G H σ} en D r => by
  obtain ⟨i, h1, h2⟩ := h.ix
  obtain ⟨i', h1', rfl⟩ := hu.ix
  have : i = i' := nodup_ix nm.nd (nm.pre i x h1) (nm.pre i' x h1')
  subst this
  obtain ⟨j, j1, rfl⟩ := hu2.ix
  have hm := List.mem_of_getElem? h1
  have hmj := List.mem_of_getElem? j1
  obtain ⟨v, hv, q, ts, rfl, g0, g1, g2, g3⟩ := en.ok i _ h2 (fun z => by cases z)
  have lt : ts.length = ds.length + 1 := by rw [dpa_len g3, List.length_append, List.length_singleton]
  obtain ⟨u, hu1, ru⟩ := dpa_get g3 (i := ds.length) (d := d) (by rw [List.getElem?_append_right (Nat.le_refl _), Nat.sub_self]; rfl)
  have gl : DtA G ts.dropLast ds := by
    have := dpa_take ds.length g3
    rw [List.take_append_of_le_length (Nat.le_refl _), List.take_length] at this
    rw [List.dropLast_eq_take, lt, Nat.add_sub_cancel]
    exact this
  refine ⟨_, ps_set nm.nd (nm.pre j y j1) (nd.loc y hmj).1 (pe_bm0 PySem.F.plainAttrs_list PySem.F.slot_list_pop PySem.F.type_list_pop mt_pop (pe_var (nm.pre i x h1) (nm.vis x hm) (nm.dbg x hm).1 (nm.dbg x hm).2) hbase hline) hs (nd.loc y hmj).2, ?_⟩
  refine ⟨_, hv, .inl ⟨rfl, _, SqL.of g2⟩, q, ts, u, rfl, rfl, g2, by rw [lt, Nat.add_sub_cancel]; exact hu1, ?_⟩
  have e1 := en.mutL h2 hv gl
  have e2 := e1.set (Ext.refl e1.gh) (c := .dat d) (v := u) ru j
  exact r.nx _ _ _ _ kk e2 (Evl.Ex.refl _)
/-- sorted(e) of numbers -/
theorem xep_sortedI (nm : Nm X P w K mg base k M GL BL) {e : Expr} {ns : List Int} (hg : Has GL "sorted") (hb : Has BL "sorted") (he : XE X cs e (.dat (.list (ns.map .int)))) (hs : starEach [e] X.env = (false, eval e X.env) :: starEach [] X.env := by rfl) (hpl : (backTo pos (starEach [] X.env)).any (·.1) = false := by rfl) :
    XEP X cs (.Call (.Name "sorted" p) [e] [] pos) (fun c => ∃ ms : List Int, ms.Perm ns ∧ ms.Pairwise (· ≤ ·) ∧ c = .own (ms.map .int)) := .mk fun en Q q =>
  ⟨_, pe_callB cr_sortedI (nm.gl _ hg.mem).1 (by rw [nm.hmg]; exact nm.bl _ hb.mem) bb_sorted (pa_cons pe_v pa_nil hs) (by decide) (by decide) hs hpl, he en fun v G' H' x r => by
    cases r with
    | @lst a xs _ hsq ha =>
      have e := dpa_ints' ha
      subst e
      refine ⟨a, ns, rfl, SqL.of (x.gh _ _ hsq), fun ms l hp hw hl => ?_⟩
      exact q _ G' _ _ ⟨ms, hp, hw, rfl⟩ (x.trans (Ext.heap x.gh (Evl.Ex.new hl))) ⟨l, _, rfl, Evl.fresh_back x.eh hl, Evl.fresh_back x.gh hl, upd_same, dpa_ints ms⟩⟩
end
end Fw

set_option maxRecDepth 100000
set_option maxHeartbeats 4000000
/-! list comprehensions whose target is a pair -/
namespace Fw
open PySem PySem.Spec PyProof.Rows L2
open Evl (Ex)
theorem wipe_set2 {σ : L2.St} {j l : Nat} {o o' : Option V} (h : j ≠ l) : wipe (((wipe σ [j, l]).set j o).set l o') [j, l] = wipe σ [j, l] := by
  show (((((σ.set l none).set j none).set j o).set l o').set l none).set j none = (σ.set l none).set j none
  rw [List.set_set, List.set_set, List.set_comm (l := σ.set l none) o none h, List.set_set, List.set_set]
def gPair (K : PySem.W.Frag) (j l : Nat) : TG := gTup K 2 (gCons (gName j) (gCons (gName l) gNil))
section
variable {X : Cx} {P : Program} {w : World} {K : PySem.W.Frag} {mg : Str → Option Value} {base : Heap} {k : Nat} {M : List (Option Str)} {GL BL : List Str} {cs cs' : List Cell} {pos p pos' p1 p2 p3 : Pos} {Po : Po}
theorem lcD2 {elt it : Expr} {ifs : List Expr} {scope : Scope} {j l : Nat} {ds : List PyData} {tg : Expr} (hjl : j ≠ l) (acc : Nat → List PyData) (h0 : acc 0 = []) (hn : ds.length ≤ 90000)
    (hi : XI X cs tg it ds)
    (hs : ∀ i d, ds[i]? = some d → ∃ d1 d2, d = .tuple [d1, d2] ∧ ∃ b, (∀ B : Bk, XTs (B.cx X scope) ((cs.set j (.dat d1)).set l (.dat d2)) ifs b) ∧ (b = true → ∃ y, (∀ B : Bk, XE (B.cx X scope) ((cs.set j (.dat d1)).set l (.dat d2)) elt (.dat y)) ∧ acc (i + 1) = acc i ++ [y]) ∧ (b = false → acc (i + 1) = acc i))
    {G0 H0 G H : Hp} {σ : L2.St} (en : Env X.K G0 H0 G H σ cs) {Q : VK} (q : ∀ v G' H', Ext G H G' H' → ROk X.K H G' H' v (.own (acc ds.length)) → Q v H') :
    tLc (vI X tg it) (gPair X.K j l) (fTs X scope ifs) (fE X scope elt) [j, l] σ H Q := by
  refine hi en fun J G1 H1 x1 ⟨Y, w, y⟩ => fun D hD => ?_
  have hHD : H D = none := Evl.fresh_back x1.eh hD
  have hGD : G1 D = none := Evl.fresh_back x1.gh hD
  refine lc_it w (fun i H' => ∃ G', Ex G1 G' ∧ Ext G H G' H' ∧ G' D = none ∧ (acc i).length ≤ i ∧ ∃ ts, H' D = some (.lst ts) ∧ DtA G' ts (acc i)) ?_ (fun i H' _ ⟨G', e, x, _⟩ => e.trans x.gh) ?_ ?_
  · exact ⟨G1, Evl.Ex.refl _, x1.mut hHD hGD, hGD, by rw [h0]; exact Nat.zero_le _, [], upd_same, by rw [h0]; exact .nil⟩
  · rintro i x H' H2 hi' ⟨G', e, x', gD, hl, ts, hts, ha⟩ yy
    obtain ⟨G2, d, x2, hd, r2⟩ := y i H' x H2 hi' (e.trans x'.gh) yy G' e x'.gh
    obtain ⟨d1, d2, rfl, b, hb, h1, h2⟩ := hs i d hd
    cases r2 with
    | @tup T ws _ hT hw =>
    cases hw with
    | @cons v1 _ _ _ r1 hw =>
    cases hw with
    | @cons v2 _ _ _ r2 hw =>
    cases hw
    refine ⟨T, _, rfl, SqT.of (x2.gh _ _ hT), rfl, _, _, rfl, _, _, rfl, rfl, wipe_set2 hjl, ?_⟩
    have env2 : Env X.K G0 H0 G2 H2 (((wipe σ [j, l]).set j (some v1)).set l (some v2)) ((cs.set j (.dat d1)).set l (.dat d2)) := by
      have e1 := (((((en.step (x'.trans x2)).wipe l).wipe j).set (Ext.refl x2.gh) (c := .dat d1) (v := v1) r1 j).set (Ext.refl x2.gh) (c := .dat d2) (v := v2) r2 l)
      have e2 : (((cs.set l Cell.un).set j Cell.un).set j (.dat d1)).set l (.dat d2) = (cs.set j (.dat d1)).set l (.dat d2) := by
        rw [List.set_set, List.set_comm (l := cs) _ _ (fun z => hjl z.symm), List.set_set]
      rw [e2] at e1
      exact e1
    intro B
    refine hb B env2 fun H3 e3 => ?_
    have x3 : Ext G H G2 H3 := (x'.trans x2).trans (Ext.heap x2.gh e3)
    have g2D : G2 D = none := x2.apart gD hts
    have h3D : H3 D = some (.lst ts) := e3 _ _ (x2.eh _ _ hts)
    cases b with
    | true =>
      rw [if_pos rfl]
      obtain ⟨z, hz, ea⟩ := h1 rfl
      intro B'
      refine hz B' (env2.step (Ext.heap x2.gh e3)) fun v G4 H4 x4 r4 => ?_
      have g4D : G4 D = none := x4.apart g2D h3D
      refine ⟨ts, x4.eh _ _ h3D, by rw [dpa_len ha]; exact Evl.sz_lt (by omega), G4, (e.trans x2.eg).trans x4.eg, (x3.trans x4).mut hHD g4D, g4D, by rw [ea, List.length_append]; exact Nat.add_le_add hl (Nat.le_refl 1), _, upd_same, ?_⟩
      rw [ea]
      exact dpa_append (dpa_mono (x2.eg.trans x4.eg) _ _ ha) (dpa_one r4)
    | false =>
      rw [if_neg (by decide)]
      refine ⟨G2, e.trans x2.eg, x3, g2D, by rw [h2 rfl]; exact Nat.le_succ_of_le hl, ts, h3D, ?_⟩
      rw [h2 rfl]
      exact dpa_mono x2.eg _ _ ha
  · rintro H' ⟨G', e, x', gD, hl, ts, hts, ha⟩
    exact q _ G' H' x' ⟨D, ts, rfl, hHD, gD, hts, ha⟩
def lcB2 (N : List Str) (sc scope : Scope) (x : Str) (j : Nat) (y : Str) (l : Nat) : Bool := blkC N sc scope [(x, j), (y, l)] && (match (relS scope sc).names.lookup x with | some .local => true | _ => false) && (match (relS scope sc).names.lookup y with | some .local => true | _ => false) && decide (N[j]? = some x) && decide (N[l]? = some y) && decide (j ≠ l)
/-- [elt for x, y in it if ..] -/
theorem lcg2 (nm : Nm X P w K mg base k M GL BL) {N : List Str} {sc scope : Scope} (hN : X.N = N) (hsc : X.env.scope = sc) {x y : Str} (j l : Nat) {elt it : Expr} {ifs : List Expr} {ds : List PyData} {tpos q1 q2 : Pos} {nn : Nat} (acc : Nat → List PyData) (h0 : acc 0 = []) (hn : ds.length ≤ 90000) (hi : XI X cs (.Tuple [.Name x q1, .Name y q2] nn tpos) it ds)
    (hok : lcB2 N sc scope x j y l = true)
    (hs : ∀ i d, ds[i]? = some d → ∃ d1 d2, d = .tuple [d1, d2] ∧ ∃ b, (∀ B : Bk, XTs (B.cx X scope) ((cs.set j (.dat d1)).set l (.dat d2)) ifs b) ∧ (b = true → ∃ y, (∀ B : Bk, XE (B.cx X scope) ((cs.set j (.dat d1)).set l (.dat d2)) elt (.dat y)) ∧ acc (i + 1) = acc i ++ [y]) ∧ (b = false → acc (i + 1) = acc i))
    (hfs : ∀ y, foldedSetIterable it X.env y = pure y := by intro _; rfl) : XE X cs (.ListComp elt [⟨.Tuple [.Name x q1, .Name y q2] nn tpos, it, ifs, 0⟩] scope pos) (.own (acc ds.length)) := by
  subst hN
  subst hsc
  unfold lcB2 at hok
  simp only [Bool.and_eq_true] at hok
  obtain ⟨⟨⟨⟨⟨h1, h2⟩, h2y⟩, h3⟩, h4⟩, h5⟩ := hok
  have h2' : (relS scope X.env.scope).names.lookup x = some .local := by
    split at h2
    · assumption
    · cases h2
  have h2y' : (relS scope X.env.scope).names.lookup y = some .local := by
    split at h2y
    · assumption
    · cases h2y
  have hne := of_decide_eq_true h5
  refine .mk fun en Q q => ⟨_, pe_lc (own := [(x, j), (y, l)]) (g := gPair X.K j l) nm.calm nm.nd pi_v (blkOk_by h1) (fun s H C cl fp => ?_) (fun s H C cl fp => ⟨fun pins s' σ H' Q I h => pts_v.run pins s' σ H' Q I (h ⟨s, H, C, cl, fp⟩)⟩)
    (fun s H C cl fp => ⟨fun pins s' σ H' Q I h => pe_v.run pins s' σ H' Q I (h ⟨s, H, C, cl, fp⟩)⟩) hfs, lcD2 hne acc h0 hn hi hs en q⟩
  exact pg_tup nm.calm (pgs_cons (pg_name nm.nd (of_decide_eq_true h3) (.inl h2') (.inr h2')) (pgs_cons (pg_name nm.nd (of_decide_eq_true h4) (.inl h2y') (.inr h2y')) pgs_nil))
end
end Fw

set_option maxRecDepth 100000
set_option maxHeartbeats 4000000
/-! the mathematics of names, rides and trips, as data -/
namespace Bus
open PySem PySem.Spec PyProof.Rows L2 Fw
def letters : Str := "abcdefghijklmnopqrstuvwxyz"
def isPlace : PyData → Bool
  | .str z => (decide (1 ≤ (z.length : Int)) && decide ((z.length : Int) ≤ 12)) && (z.cps.toList.map fun c => decide (c ∈ letters.cps.toList)).all id
  | _ => false
def isWhole : PyData → Int → Int → Bool
  | .int i, l, m => decide (l ≤ i) && decide (i ≤ m)
  | _, _, _ => false
def isRide : PyData → Bool
  | .tuple [.str a, .str b, m] => isPlace (.str a) && isPlace (.str b) && !decide (a = b) && isWhole m 1 9999
  | _ => false
def isTrip : PyData → Bool
  | .tuple [.str a, .int b, .str c, .int e] => isPlace (.str a) && isPlace (.str c) && isWhole (.int b) 0 99999 && isWhole (.int e) 0 99999 && decide (b < e)
  | _ => false
/-- texts that are not too long, in a thing and in a tuple's places -/
def Short (d : PyData) : Prop := ∀ z, d = .str z → z.length ≤ 100000
def Short1 (d : PyData) : Prop := ∀ ds, d = .tuple ds → ∀ x ∈ ds, Short x
abbrev Ride := Str × Str × Int
abbrev Trip := Str × Int × Str × Int
def rideD (r : Ride) : PyData := .tuple [.str r.1, .str r.2.1, .int r.2.2]
def tripD (t : Trip) : PyData := .tuple [.str t.1, .int t.2.1, .str t.2.2.1, .int t.2.2.2]
def Ok (z : Str) : Prop := isPlace (.str z) = true
def OkR (r : Ride) : Prop := isRide (rideD r) = true
def OkT (t : Trip) : Prop := isTrip (tripD t) = true
theorem Ok.len {z : Str} (h : Ok z) : z.length ≤ 12 := by
  unfold Ok isPlace at h
  simp only [Bool.and_eq_true, decide_eq_true_eq] at h
  omega
theorem Ok.short {z : Str} (h : Ok z) : Short (.str z) := fun y e => by
  cases e
  have := h.len
  omega
theorem ok_iff {z : Str} : Ok z ↔ 1 ≤ z.length ∧ z.length ≤ 12 ∧ ∀ c ∈ z.cps.toList, c ∈ letters.cps.toList := by
  unfold Ok isPlace
  simp only [Bool.and_eq_true, decide_eq_true_eq, List.all_eq_true, List.mem_map, id]
  constructor
  · rintro ⟨⟨h1, h2⟩, h3⟩
    exact ⟨by omega, by omega, fun c hc => of_decide_eq_true (h3 _ ⟨c, hc, rfl⟩)⟩
  · rintro ⟨h1, h2, h3⟩
    refine ⟨⟨by omega, by omega⟩, ?_⟩
    rintro x ⟨c, hc, rfl⟩
    exact decide_eq_true (h3 c hc)
theorem okR_iff {r : Ride} : OkR r ↔ Ok r.1 ∧ Ok r.2.1 ∧ r.1 ≠ r.2.1 ∧ 1 ≤ r.2.2 ∧ r.2.2 ≤ 9999 := by
  unfold OkR rideD isRide isWhole Ok
  simp only [Bool.and_eq_true, Bool.not_eq_true', decide_eq_true_eq, decide_eq_false_iff_not]
  constructor
  · rintro ⟨⟨⟨a, b⟩, c⟩, d, e⟩
    exact ⟨a, b, c, d, e⟩
  · rintro ⟨a, b, c, d, e⟩
    exact ⟨⟨⟨a, b⟩, c⟩, d, e⟩
theorem okT_iff {t : Trip} : OkT t ↔ Ok t.1 ∧ Ok t.2.2.1 ∧ 0 ≤ t.2.1 ∧ t.2.1 < t.2.2.2 ∧ t.2.2.2 ≤ 99999 := by
  unfold OkT tripD isTrip isWhole Ok
  simp only [Bool.and_eq_true, decide_eq_true_eq]
  constructor
  · rintro ⟨⟨⟨⟨a, b⟩, c, d⟩, e, f⟩, g⟩
    exact ⟨a, b, c, g, f⟩
  · rintro ⟨a, b, c, d, e⟩
    exact ⟨⟨⟨⟨a, b⟩, c, by omega⟩, by omega, e⟩, d⟩
theorem OkR.short {r : Ride} (h : OkR r) : Short1 (rideD r) := fun ds e x hx => by
  obtain ⟨h1, h2, _⟩ := okR_iff.mp h
  unfold rideD at e
  cases e
  simp only [List.mem_cons, List.not_mem_nil, or_false] at hx
  rcases hx with rfl | rfl | rfl
  · exact h1.short
  · exact h2.short
  · intro z e
    cases e
theorem OkT.short {r : Trip} (h : OkT r) : Short1 (tripD r) := fun ds e x hx => by
  obtain ⟨h1, h2, _⟩ := okT_iff.mp h
  unfold tripD at e
  cases e
  simp only [List.mem_cons, List.not_mem_nil, or_false] at hx
  rcases hx with rfl | rfl | rfl | rfl
  · exact h1.short
  · intro z e
    cases e
  · exact h2.short
  · intro z e
    cases e
/-- the roads of rides and trips -/
def laid (rs : List Ride) (ts : List Trip) : List Ride := rs ++ (ts.filter fun t => !decide (t.1 = t.2.2.1)).map fun t => (t.1, t.2.2.1, t.2.2.2 - t.2.1)
theorem laid_len (rs : List Ride) (ts : List Trip) : (laid rs ts).length ≤ rs.length + ts.length := by
  unfold laid
  rw [List.length_append, List.length_map]
  have := List.length_filter_le (fun t : Trip => !decide (t.1 = t.2.2.1)) ts
  omega
theorem laid_take {rs : List Ride} {ts : List Trip} {i : Nat} {t : Trip} (h : ts[i]? = some t) : laid rs (ts.take (i + 1)) = if t.1 = t.2.2.1 then laid rs (ts.take i) else laid rs (ts.take i) ++ [(t.1, t.2.2.1, t.2.2.2 - t.2.1)] := by
  unfold laid
  rw [List.take_add_one, h]
  simp only [Option.toList, List.filter_append, List.map_append]
  by_cases e : t.1 = t.2.2.1
  · rw [if_pos e, List.filter_cons, if_neg (by simp [e])]
    simp
  · rw [if_neg e, List.filter_cons, if_pos (by simp [e])]
    simp
theorem laid_all (rs : List Ride) (ts : List Trip) : laid rs (ts.take ts.length) = laid rs ts := by rw [List.take_length]
/-! ### data that == takes -/
def Shp (d : PyData) (n : Nat) : Prop := d.canLay0 = true ∧ d.depth ≤ n
theorem Shp.shaped {d : PyData} {n : Nat} (h : Shp d n) (hn : n ≤ 64 := by decide) : SeqAt.shaped d = true := by
  unfold SeqAt.shaped
  rw [h.1, Bool.true_and]
  exact decide_eq_true (Nat.le_trans h.2 hn)
theorem Shp.mono {d : PyData} {n m : Nat} (h : Shp d n) (hn : n ≤ m) : Shp d m := ⟨h.1, Nat.le_trans h.2 hn⟩
theorem shp_int (i : Int) : Shp (.int i) 0 := ⟨by simp [PyData.canLay0], by simp [PyData.depth]⟩
theorem shp_bool (i : Bool) : Shp (.bool i) 0 := ⟨by simp [PyData.canLay0], by simp [PyData.depth]⟩
theorem shp_none : Shp .none 0 := ⟨by simp [PyData.canLay0], by simp [PyData.depth]⟩
theorem shp_all {n : Nat} : ∀ {ds : List PyData}, (∀ d ∈ ds, Shp d n) → PyData.canLayAll0 ds = true ∧ PyData.depthAll ds ≤ n
  | [], _ => ⟨by simp [PyData.canLayAll0], by simp [PyData.depthAll]⟩
  | d :: ds, h => by
    obtain ⟨h1, h2⟩ := h d List.mem_cons_self
    obtain ⟨h3, h4⟩ := shp_all fun x hx => h x (List.mem_cons_of_mem _ hx)
    refine ⟨by simp [PyData.canLayAll0, h1, h3], ?_⟩
    simp only [PyData.depthAll]
    omega
theorem shp_list {n : Nat} {ds : List PyData} (h : ∀ d ∈ ds, Shp d n) : Shp (.list ds) (n + 1) := by
  obtain ⟨h1, h2⟩ := shp_all h
  exact ⟨by simp [PyData.canLay0, h1], by simp only [PyData.depth]; omega⟩
theorem shp_tup {n : Nat} {ds : List PyData} (h : ∀ d ∈ ds, Shp d n) : Shp (.tuple ds) (n + 1) := by
  obtain ⟨h1, h2⟩ := shp_all h
  exact ⟨by simp [PyData.canLay0, h1], by simp only [PyData.depth]; omega⟩
theorem shp_map {α : Type} {n : Nat} {f : α → PyData} {l : List α} (h : ∀ a ∈ l, Shp (f a) n) : Shp (.list (l.map f)) (n + 1) := shp_list fun d hd => by
  obtain ⟨a, ha, rfl⟩ := List.mem_map.mp hd
  exact h a ha
theorem letters_small : ∀ c ∈ letters.cps.toList, c < 0x110000 := by decide +kernel
theorem ok_shp {z : Str} (h : Ok z) : Shp (.str z) 0 := by
  refine ⟨?_, by simp [PyData.depth]⟩
  simp only [PyData.canLay0, PyData.strOk, Array.all_eq_true, decide_eq_true_eq]
  intro i hi
  exact letters_small _ ((ok_iff.mp h).2.2 _ (Array.mem_toList_iff.mpr (Array.getElem_mem hi)))
theorem ride_shp {r : Ride} (h : Ok r.1) (h' : Ok r.2.1) : Shp (rideD r) 1 := shp_tup fun d hd => by
  simp only [List.mem_cons, List.not_mem_nil, or_false] at hd
  rcases hd with rfl | rfl | rfl
  · exact ok_shp h
  · exact ok_shp h'
  · exact shp_int _
theorem trip_shp {t : Trip} (h : OkT t) : Shp (tripD t) 1 := by
  obtain ⟨h1, h2, _⟩ := okT_iff.mp h
  refine shp_tup fun d hd => ?_
  simp only [List.mem_cons, List.not_mem_nil, or_false] at hd
  rcases hd with rfl | rfl | rfl | rfl
  · exact ok_shp h1
  · exact shp_int _
  · exact ok_shp h2
  · exact shp_int _
theorem eqv_same {d : PyData} {n : Nat} (h : Shp d n) : PyData.eqv d d = true := SeqAt.eqv_refl d h.1
/-! ### names -/
theorem mul_one {c : Nat} {n : Int} (h : 0 ≤ n) : (Txt.mul ⟨#[c]⟩ n).cps.toList = List.replicate n.toNat c := by
  have key : ∀ (m : Nat) (a : Array Nat), ((List.replicate m (#[c] : Array Nat)).foldl (· ++ ·) a).toList = a.toList ++ List.replicate m c := by
    intro m
    induction m with
    | zero => intro a; simp
    | succ m ih =>
      intro a
      rw [List.replicate_succ, List.foldl_cons, ih, List.replicate_succ]
      simp
  unfold Txt.mul
  split
  · have : n = 0 := by omega
    subst this
    rfl
  · split
    · rename_i h1 h2
      have : n = 1 := by
        rcases Bool.or_eq_true_iff.mp h2 with h2 | h2
        · exact eq_of_beq h2
        · exact absurd h2 (by simp [Str.length])
      subst this
      rfl
    · show ((List.replicate n.toNat (#[c] : Array Nat)).foldl (· ++ ·) #[]).toList = _
      rw [key]
      simp
theorem mul_ok {c : Nat} {n : Int} (h : 0 ≤ n) (h' : n ≤ 100) : MulOk ⟨#[c]⟩ n := by
  refine ⟨?_, fun _ _ => ?_, fun _ _ => ?_⟩
  · rw [Bool.or_eq_false_iff]
    exact ⟨decide_eq_false (by omega), decide_eq_false (by omega)⟩
  · have : ((Str.length ⟨#[c]⟩ : Nat) : Int) = 1 := rfl
    rw [this]
    have h2 : 1 ≤ (2 ^ 63 - 1 : Int) / n := by
      rw [Int.le_ediv_iff_mul_le (by omega)]
      omega
    omega
  · have : Str.length ⟨#[c]⟩ = 1 := rfl
    rw [this, Nat.one_mul]
    refine (show decide (n.toNat > sizeLine) = false from decide_eq_false ?_)
    have : sizeLine = 16777216 := rfl
    omega
end Bus

set_option maxRecDepth 100000
set_option maxHeartbeats 4000000
/-! the names that a law makes, and what its rides and trips are made of -/
namespace Bus
open PySem PySem.Spec PyProof.Rows L2 Fw
def cellAt (ns : List Int) (k : Int) : Int := ns.getD k.toNat 0
theorem str_ext {a b : Str} (h : a.cps.toList = b.cps.toList) : a = b := by
  cases a with | mk a => cases b with | mk b =>
    have : a = b := Array.ext' h
    rw [this]
theorem fmod_lt (x : Int) {n : Int} (h : 0 < n) : 0 ≤ x.fmod n ∧ x.fmod n < n := ⟨Int.fmod_nonneg_of_pos _ h, Int.fmod_lt_of_pos _ h⟩
theorem letters_len : letters.cps.toList.length = 26 := by decide +kernel
theorem letters_nodup : letters.cps.toList.Nodup := by decide +kernel
theorem letter_at (x : Int) : ∃ c, atI letters.cps.toList (x.fmod 26) = some c ∧ c ∈ letters.cps.toList := by
  obtain ⟨h0, h1⟩ := fmod_lt x (n := 26) (by decide)
  have hl : (x.fmod 26).toNat < letters.cps.toList.length := by rw [letters_len]; omega
  refine ⟨letters.cps.toList[(x.fmod 26).toNat], atI_nat' (n := (x.fmod 26).toNat) (by omega) (List.getElem?_eq_getElem hl), List.getElem_mem hl⟩
theorem atI_inv {α : Type} {l : List α} {i : Int} {v : α} (h0 : 0 ≤ i) (h : atI l i = some v) : l[i.toNat]? = some v := by
  unfold atI ixN at h
  rw [if_pos h0] at h
  split at h
  · exact h
  · cases h
theorem letter_inj {i j : Nat} {q : Int} {c : Nat} (hi : i < 12) (hj : j < 12) (h1 : atI letters.cps.toList (((i : Int) + q).fmod 26) = some c) (h2 : atI letters.cps.toList (((j : Int) + q).fmod 26) = some c) : i = j := by
  obtain ⟨a0, a1⟩ := fmod_lt ((i : Int) + q) (n := 26) (by decide)
  obtain ⟨b0, b1⟩ := fmod_lt ((j : Int) + q) (n := 26) (by decide)
  have e := nd_ix letters_nodup (atI_inv a0 h1) (atI_inv b0 h2)
  have e1 := Int.mul_fdiv_add_fmod ((i : Int) + q) 26
  have e2 := Int.mul_fdiv_add_fmod ((j : Int) + q) 26
  omega
/-- names as they are wanted -/
def OkNames (zs : List Str) (n : Nat) : Prop := zs.length = n ∧ zs.Nodup ∧ ∀ z ∈ zs, Ok z
theorem ok_of_list {z : Str} (h1 : 1 ≤ z.cps.toList.length) (h2 : z.cps.toList.length ≤ 12) (h3 : ∀ c ∈ z.cps.toList, c ∈ letters.cps.toList) : Ok z := by
  have e : z.length = z.cps.toList.length := by simp [Str.length]
  exact ok_iff.mpr ⟨by omega, by omega, h3⟩
theorem nodup_of {α : Type} {l : List α} (h : ∀ (i j : Nat) a, l[i]? = some a → l[j]? = some a → i = j) : l.Nodup := by
  unfold List.Nodup
  rw [List.pairwise_iff_getElem]
  intro i j hi hj hij e
  have := h i j l[j] (by rw [List.getElem?_eq_getElem hi, e]) (List.getElem?_eq_getElem hj)
  omega
/-- each the one ahead and a letter more -/
theorem names_odd {zs : List Str} {n : Nat} {c : Nat} (hc : c ∈ letters.cps.toList) (hn : n ≤ 12) (hl : zs.length = n) (h : ∀ (j : Nat) z, zs[j]? = some z → z.cps.toList = List.replicate (j + 1) c) : OkNames zs n := by
  refine ⟨hl, nodup_of fun i j a h1 h2 => ?_, fun z hz => ?_⟩
  · have e1 := h i a h1
    have e2 := h j a h2
    rw [e1] at e2
    have := congrArg List.length e2
    rw [List.length_replicate, List.length_replicate] at this
    omega
  · obtain ⟨j, hj⟩ := List.mem_iff_getElem?.mp hz
    have e := h j z hj
    have hlt := (List.getElem?_eq_some_iff.mp hj).1
    refine ok_of_list ?_ ?_ ?_
    · rw [e, List.length_replicate]; omega
    · rw [e, List.length_replicate]; omega
    · rw [e]
      intro x hx
      rw [List.mem_replicate] at hx
      rw [hx.2]
      exact hc
/-- alike but at a place -/
theorem names_even {zs : List Str} {n : Nat} {f : Nat} {q : Int} {p m : Nat} (hf : f ∈ letters.cps.toList) (hn : n ≤ 12) (hp : p + m ≤ 11) (hl : zs.length = n) (h : ∀ (j : Nat) z, zs[j]? = some z → ∃ s, atI letters.cps.toList (((j : Int) + q).fmod 26) = some s ∧ z.cps.toList = List.replicate p f ++ s :: List.replicate m f) : OkNames zs n := by
  refine ⟨hl, nodup_of fun i j a h1 h2 => ?_, fun z hz => ?_⟩
  · obtain ⟨s, s1, e1⟩ := h i a h1
    obtain ⟨s', s2, e2⟩ := h j a h2
    rw [e1] at e2
    have e3 := List.append_cancel_left e2
    cases e3
    have l1 := (List.getElem?_eq_some_iff.mp h1).1
    have l2 := (List.getElem?_eq_some_iff.mp h2).1
    exact letter_inj (by omega) (by omega) s1 s2
  · obtain ⟨j, hj⟩ := List.mem_iff_getElem?.mp hz
    obtain ⟨s, s1, e⟩ := h j z hj
    have hs : s ∈ letters.cps.toList := List.mem_of_getElem? (atI_inv (fmod_lt _ (by decide)).1 s1)
    refine ok_of_list ?_ ?_ ?_
    · rw [e]; simp; omega
    · rw [e]; simp; omega
    · rw [e]
      intro x hx
      simp only [List.mem_append, List.mem_replicate, List.mem_cons] at hx
      rcases hx with hx | hx | hx
      · rw [hx.2]; exact hf
      · rw [hx]; exact hs
      · rw [hx.2]; exact hf
theorem app_list (a b : Str) : (a ++ b).cps.toList = a.cps.toList ++ b.cps.toList := by
  show (a.cps ++ b.cps).toList = _
  simp
theorem app_len (a b : Str) : (a ++ b).length = a.length + b.length := by
  show (a.cps ++ b.cps).size = _
  simp [Str.length]
theorem mul_len {c : Nat} {n : Int} (h : 0 ≤ n) : (Txt.mul ⟨#[c]⟩ n).length = n.toNat := by
  have := congrArg List.length (mul_one (c := c) h)
  rw [List.length_replicate] at this
  rw [← this]
  simp [Str.length]
end Bus

set_option maxRecDepth 100000
set_option maxHeartbeats 4000000
/-! heaps, as lists -/
namespace Hq
/-- a strict weak order -/
structure Swo {α : Type} (lt : α → α → Bool) : Prop where
  asym : ∀ a b, lt a b = true → lt b a = false
  neg : ∀ a b c, lt a b = false → lt b c = false → lt a c = false
section
variable {α : Type} {lt : α → α → Bool}
theorem Swo.irr (h : Swo lt) (a : α) : lt a a = false := by
  cases e : lt a a
  · rfl
  · rw [h.asym a a e] at e
    cases e
/-- from a < b, b ≤ c -/
theorem Swo.lt_le (h : Swo lt) {a b c : α} (h1 : lt a b = true) (h2 : lt c b = false) : lt c a = false := by
  cases e : lt c a
  · rfl
  · have e1 := h.asym _ _ e
    cases e2 : lt a b
    · rw [e2] at h1
      cases h1
    · have := h.neg c b a h2 (h.asym _ _ h1)
      rw [this] at e
      cases e
/-- no place but i is less than its parent -/
def Up (lt : α → α → Bool) (xs : List α) (p : Nat) : Prop :=
  (∀ (i : Nat) a b, 0 < i → i ≠ p → xs[i]? = some a → xs[(i - 1) / 2]? = some b → lt a b = false) ∧
  (∀ (c : Nat) a b, 0 < p → (c - 1) / 2 = p → 0 < c → xs[c]? = some a → xs[(p - 1) / 2]? = some b → lt a b = false)
def Down (lt : α → α → Bool) (xs : List α) (p : Nat) : Prop :=
  (∀ (i : Nat) a b, 0 < i → i ≠ p → (i - 1) / 2 ≠ p → xs[i]? = some a → xs[(i - 1) / 2]? = some b → lt a b = false) ∧
  (∀ (c : Nat) a b, 0 < p → (c - 1) / 2 = p → 0 < c → xs[c]? = some a → xs[(p - 1) / 2]? = some b → lt a b = false)
def Heap (lt : α → α → Bool) (xs : List α) : Prop := ∀ (i : Nat) a b, 0 < i → xs[i]? = some a → xs[(i - 1) / 2]? = some b → lt a b = false
def swap (xs : List α) (i j : Nat) (x y : α) : List α := (xs.set i y).set j x
theorem swap_get {xs : List α} {i j k : Nat} {x y : α} (hij : i ≠ j) (hi : xs[i]? = some x) (hj : xs[j]? = some y) : (swap xs i j x y)[k]? = if k = i then some y else if k = j then some x else xs[k]? := by
  have li := (List.getElem?_eq_some_iff.mp hi).1
  have lj := (List.getElem?_eq_some_iff.mp hj).1
  unfold swap
  rw [List.getElem?_set]
  by_cases h : k = i
  · subst h
    rw [if_neg (fun e => hij e.symm), List.getElem?_set, if_pos rfl, if_pos li, if_pos rfl]
  · rw [if_neg h]
    by_cases h2 : k = j
    · subst h2
      rw [if_pos rfl, if_pos rfl, if_pos (by rw [List.length_set]; exact lj)]
    · rw [if_neg (fun e => h2 e.symm), if_neg h2, List.getElem?_set, if_neg (fun e => h e.symm)]
theorem swap_len {xs : List α} {i j : Nat} {x y : α} : (swap xs i j x y).length = xs.length := by simp [swap]
theorem swap_perm {xs : List α} {i j : Nat} {x y : α} (hij : i ≠ j) (hi : xs[i]? = some x) (hj : xs[j]? = some y) : (swap xs i j x y).Perm xs := by
  obtain ⟨li, ei⟩ := List.getElem?_eq_some_iff.mp hi
  obtain ⟨lj, ej⟩ := List.getElem?_eq_some_iff.mp hj
  subst ei ej
  unfold swap
  exact List.set_set_perm li lj
theorem up_done (h : Up lt xs p) (hp : p = 0 ∨ ∀ a b, xs[p]? = some a → xs[(p - 1) / 2]? = some b → lt a b = false) : Heap lt xs := fun i a b hi h1 h2 => by
  by_cases e : i = p
  · subst e
    rcases hp with hp | hp
    · omega
    · exact hp a b h1 h2
  · exact h.1 i a b hi e h1 h2
theorem up_step (o : Swo lt) {xs : List α} {p : Nat} {x y : α} (h : Up lt xs p) (hp : 0 < p) (hx : xs[p]? = some x) (hy : xs[(p - 1) / 2]? = some y) (hlt : lt x y = true) : Up lt (swap xs ((p - 1) / 2) p y x) ((p - 1) / 2) := by
  have hne : (p - 1) / 2 ≠ p := by omega
  constructor
  · intro i a b hi hip h1 h2
    rw [swap_get hne hy hx] at h1 h2
    rw [if_neg hip] at h1
    by_cases e : i = p
    · subst e
      rw [if_pos rfl] at h1
      rw [if_pos rfl] at h2
      cases h1
      cases h2
      exact o.asym _ _ hlt
    · rw [if_neg e] at h1
      by_cases e2 : (i - 1) / 2 = (p - 1) / 2
      · rw [e2, if_pos rfl] at h2
        cases h2
        have := h.1 i a y hi e h1 (by rw [e2]; exact hy)
        exact o.lt_le hlt this
      · rw [if_neg e2] at h2
        by_cases e3 : (i - 1) / 2 = p
        · rw [if_pos e3] at h2
          cases h2
          exact h.2 i a y hp e3 hi h1 hy
        · rw [if_neg e3] at h2
          exact h.1 i a b hi e h1 h2
  · intro c a b hp' hc hc0 h1 h2
    rw [swap_get hne hy hx] at h1 h2
    have n1 : ((p - 1) / 2 - 1) / 2 ≠ (p - 1) / 2 := by omega
    have n2 : ((p - 1) / 2 - 1) / 2 ≠ p := by omega
    rw [if_neg n1, if_neg n2] at h2
    have hyb := h.1 ((p - 1) / 2) y b hp' hne hy h2
    rw [if_neg (by omega)] at h1
    by_cases e : c = p
    · rw [if_pos e] at h1
      cases h1
      exact hyb
    · rw [if_neg e] at h1
      have := h.1 c a y hc0 e h1 (by rw [hc]; exact hy)
      exact o.neg _ _ _ this hyb
theorem down_step (o : Swo lt) {xs : List α} {p c : Nat} {x y : α} (h : Down lt xs p) (hc0 : 0 < c) (hc : (c - 1) / 2 = p) (hx : xs[p]? = some x) (hy : xs[c]? = some y) (hs : ∀ (d : Nat) z, 0 < d → (d - 1) / 2 = p → d ≠ c → xs[d]? = some z → lt z y = false) : Down lt (swap xs c p y x) c := by
  have hne : c ≠ p := by omega
  constructor
  · intro i a b hi hic hpc h1 h2
    rw [swap_get hne hy hx] at h1 h2
    rw [if_neg hic] at h1
    rw [if_neg hpc] at h2
    by_cases e : i = p
    · subst e
      rw [if_pos rfl] at h1
      cases h1
      rw [if_neg (by omega)] at h2
      exact h.2 c y b hi hc hc0 hy h2
    · rw [if_neg e] at h1
      by_cases e2 : (i - 1) / 2 = p
      · rw [if_pos e2] at h2
        cases h2
        exact hs i a hi e2 hic h1
      · rw [if_neg e2] at h2
        exact h.1 i a b hi e e2 h1 h2
  · intro g a b hc' hg hg0 h1 h2
    rw [swap_get hne hy hx] at h1 h2
    rw [if_neg (by omega), if_neg (by omega)] at h1
    rw [hc] at h2
    rw [if_neg (by omega), if_pos rfl] at h2
    cases h2
    exact h.1 g a y hg0 (by omega) (by omega) h1 (by rw [hg]; exact hy)
theorem down_up {xs : List α} {p : Nat} (h : Down lt xs p) (hl : xs.length ≤ 2 * p + 1) : Up lt xs p :=
  ⟨fun i a b hi hip h1 h2 => by
    have := (List.getElem?_eq_some_iff.mp h1).1
    exact h.1 i a b hi hip (by omega) h1 h2, h.2⟩
theorem heap_min (o : Swo lt) {xs : List α} (h : Heap lt xs) {x : α} (hx : xs[0]? = some x) : ∀ (i : Nat) a, xs[i]? = some a → lt a x = false := by
  intro i
  induction i using Nat.strongRecOn with
  | ind i ih =>
    intro a ha
    by_cases e : i = 0
    · subst e
      rw [hx] at ha
      cases ha
      exact o.irr _
    · have li := (List.getElem?_eq_some_iff.mp ha).1
      have hb : xs[(i - 1) / 2]? = some (xs[(i - 1) / 2]'(by omega)) := List.getElem?_eq_getElem (by omega)
      exact o.neg _ _ _ (h i a _ (by omega) ha hb) (ih ((i - 1) / 2) (by omega) _ hb)
theorem heap_push {xs : List α} (h : Heap lt xs) (x : α) : Up lt (xs ++ [x]) xs.length := by
  constructor
  · intro i a b hi hip h1 h2
    have li := (List.getElem?_eq_some_iff.mp h1).1
    rw [List.length_append, List.length_singleton] at li
    rw [List.getElem?_append_left (by omega)] at h1 h2
    exact h i a b hi h1 h2
  · intro c a b hp hc hc0 h1 h2
    have li := (List.getElem?_eq_some_iff.mp h1).1
    rw [List.length_append, List.length_singleton] at li
    omega
/-- the last one laid at the top -/
theorem heap_pop {xs : List α} {f l : α} (h : Heap lt (xs ++ [l])) (hx : xs[0]? = some f) : Down lt (xs.set 0 l) 0 := by
  constructor
  · intro i a b hi hip hpi h1 h2
    have hp0 : (i - 1) / 2 ≠ 0 := hpi
    rw [List.getElem?_set, if_neg (by omega)] at h1 h2
    have l1 := (List.getElem?_eq_some_iff.mp h1).1
    have l2 := (List.getElem?_eq_some_iff.mp h2).1
    exact h i a b hi (by rw [List.getElem?_append_left l1]; exact h1) (by rw [List.getElem?_append_left l2]; exact h2)
  · intro c a b hp
    omega
end
end Hq

set_option maxRecDepth 100000
set_option maxHeartbeats 4000000
/-! tuples of numbers and texts in their order; heappush and heappop over them -/
namespace Hq
open PySem PySem.Spec PyProof.Rows L2
def ltS : V → V → Bool
  | .int a, .int b => decide (a < b)
  | .str a, .str b => decide (a.cps.toList < b.cps.toList)
  | _, _ => false
def like : V → V → Bool
  | .int _, .int _ => true
  | .str _, .str _ => true
  | _, _ => false
def lexV : List V → List V → Bool
  | [], [] => false
  | [], _ :: _ => true
  | _ :: _, [] => false
  | x :: xs, y :: ys => if x = y then lexV xs ys else ltS x y
theorem eqAt_key (A : Around) (s : Shared) {x y : V} {u v : Value} (h : like x y = true) (hx : RelV x u) (hy : RelV y v) : ∃ e, SeqAt.EqAt A s u v e ∧ (e = true ↔ x = y) := by
  cases x <;> cases y <;> first | (cases h; done) | skip
  · obtain ⟨t, rfl⟩ := hx
    obtain ⟨t', rfl⟩ := hy
    exact ⟨_, SeqAt.EqAt.int_int _ _ _ _, by simp⟩
  · obtain ⟨t, rfl⟩ := hx
    obtain ⟨t', rfl⟩ := hy
    exact ⟨_, SeqAt.EqAt.str_str _ _ _ _, by simp⟩
theorem rcLt_key (A : Around) (s : Shared) {x y : V} {u v : Value} (hl : like x y = true) (hx : RelV x u) (hy : RelV y v) (prog : Program) (w : World) (E : Value → Shared → Prop) (Q : Value → Shared → Prop) (h : Q (.bool (ltS x y)) s) :
    wpAny (model prog w) A (richCompare .Lt u v) Q E s := by
  cases x <;> cases y <;> first | (cases hl; done) | skip
  · obtain ⟨t, rfl⟩ := hx
    obtain ⟨t', rfl⟩ := hy
    exact (lt_int h : wpAny (model prog w) A (compareOp .Lt _ _) Q E s)
  · obtain ⟨t, rfl⟩ := hx
    obtain ⟨t', rfl⟩ := hy
    exact (lt_str h : wpAny (model prog w) A (compareOp .Lt _ _) Q E s)
section
open PySem.SeqAt
open PySem.AutoSeq1 (wpAny_loadPart')
open PySem.MeetsSeq PySem.MeetsSeq2 PySem.MeetsSeq3
theorem tuple_lt_keys (l b : Addr) (items items2 : Array Value) (n n2 : Nat) (dd dd2 : Option Addr) (sl sl2 : Array (Option Value)) (xs ys : List V) (hi : Vals xs items.toList) (hj : Vals ys items2.toList) (hk : ∀ p ∈ xs.zip ys, like p.1 p.2 = true) :
    Meets (Builtin.«tuple.__lt__» ⟨[.ref l, .ref b], []⟩)
      (fun _ R s => s.heap.get? l = some { cls := .type "tuple", dict := dd, data := .seq items n, slots := sl } ∧ s.heap.get? b = some { cls := .type "tuple", dict := dd2, data := .seq items2 n2, slots := sl2 } ∧
        R (.ok (.ret (.bool (lexV xs ys)))) s) :=
  .of_wp fun prog w A R s h => by
    obtain ⟨hp, g, d, tk, os⟩ := s; obtain ⟨hl, hb, h⟩ := h
    have f2 := AutoSeq1.sub_tuple_tuple
    have z1 : items.size = xs.length := by rw [hi.length]; simp
    have z2 : items2.size = ys.length := by rw [hj.length]; simp
    wp_walk using wpAny_loadPart' hl, wpAny_loadPart' hb, wpAny_forIn_list _ (fun rest b s' => b.1 = none ∧ s' = ⟨hp, g, d, tk, os⟩ ∧ ∃ (vs ws : List Value) (ns' ms' : List V), rest = vs.zip ws ∧
      Vals ns' vs ∧ Vals ms' ws ∧ (∀ p ∈ ns'.zip ms', like p.1 p.2 = true) ∧ ns'.length + items2.size = ms'.length + items.size ∧ R (.ok (.ret (.bool (lexV ns' ms')))) ⟨hp, g, d, tk, os⟩) _
    case turn =>
      rintro ⟨y, x⟩ rest b s' ⟨hb', rfl, vs, ws, ns', ms', hz, hvi, hwi, hlk, hlen, hR⟩
      cases hvi with
      | nil => rw [List.zip_nil_left] at hz; cases hz
      | cons r hvi' =>
        cases hwi with
        | nil => rw [List.zip_nil_right] at hz; cases hz
        | cons r' hwi' =>
          rw [List.zip_cons_cons] at hz
          injection hz with hyx hrest
          injection hyx with hy hx
          subst hy hx
          rw [lexV] at hR
          simp only [List.length_cons] at hlen
          have lk := hlk _ (by rw [List.zip_cons_cons]; exact List.mem_cons_self)
          obtain ⟨e, he, hiff⟩ := eqAt_key A.in1 ⟨hp, g, d, tk, os⟩ lk r r'
          refine wpAny_bind (he prog w _ _ ?_)
          cases e with
          | true =>
            rw [if_pos (hiff.mp rfl)] at hR
            wp_walk
            exact ⟨rfl, rfl, _, _, _, _, hrest, hvi', hwi', fun p hp' => hlk p (by rw [List.zip_cons_cons]; exact List.mem_cons_of_mem _ hp'), by omega, hR⟩
          | false =>
            rw [if_neg (fun q => absurd (hiff.mpr q) Bool.false_ne_true)] at hR
            have hri := rcLt_key A.in1 ⟨hp, g, d, tk, os⟩ lk r r' prog w
            wp_walk using hri
            exact ⟨_, rfl, by simpa using hR⟩
    case fin =>
      rintro ⟨b1, b2⟩ s' ⟨hb', rfl, vs, ws, ns', ms', hz, hvi, hwi, hlk, hlen, hR⟩
      simp only at hb'
      subst hb'
      have hv : lexV ns' ms' = decide (items.size < items2.size) := by
        cases hvi with
        | nil =>
          cases hwi with
          | nil =>
            simp only [List.length_nil] at hlen
            exact (decide_eq_false (by omega)).symm
          | cons r hw =>
            simp only [List.length_nil, List.length_cons] at hlen
            exact (decide_eq_true (by omega)).symm
        | cons r hv =>
          cases hwi with
          | nil =>
            simp only [List.length_nil, List.length_cons] at hlen
            exact (decide_eq_false (by omega)).symm
          | cons r' hw =>
            rw [List.zip_cons_cons] at hz
            cases hz
      rw [hv] at hR
      wp_walk
      exact ⟨_, rfl, by simpa [Builtin.Tuple.tupleCompareSizes] using hR⟩
    case h =>
      exact ⟨rfl, rfl, items.toList, items2.toList, xs, ys, rfl, hi, hj, hk, by omega, h⟩
end
theorem lt_tupKeys {prog : Program} {w : World} {A : Around} {E : Value → Shared → Prop} {s : Shared} {l b : Addr} {items items2 : Array Value} {xs ys : List V} {Q : Value → Shared → Prop} (hl : IsTup s.heap l items) (hb : IsTup s.heap b items2) (hi : Vals xs items.toList) (hj : Vals ys items2.toList) (hk : ∀ p ∈ xs.zip ys, like p.1 p.2 = true)
    (hu : A.units < cLine) (h : Q (.bool (lexV xs ys)) s) : wpAny (model prog w) A (compareOp .Lt (.ref l) (.ref b)) Q E s := by
  obtain ⟨⟨cls, dd, data, sl⟩, ho, hc, n, hd⟩ := id hl
  obtain ⟨⟨cls2, dd2, data2, sl2⟩, ho2, hc2, n2, hd2⟩ := id hb
  simp only at hc hd hc2 hd2
  subst hc hd hc2 hd2
  exact richCompare_meets_room (op := .Lt) ⟨_, ho, rfl⟩ ⟨_, ho2, rfl⟩ PySem.F.slot_tuple_lt PySem.F.entry_tuple_lt (PySem.F.args_tuple_lt_2 _ _) (tuple_lt_keys l b items items2 n n2 dd dd2 sl sl2 xs ys hi hj hk)
    ⟨ho, ho2, show Value.bool (lexV xs ys) ≠ Value.notImplemented ∧ Q (.bool (lexV xs ys)) s from ⟨(fun x => nomatch x), h⟩⟩ hu
end Hq

set_option maxRecDepth 100000
set_option maxHeartbeats 4000000
namespace Hq
open PySem PySem.Spec PyProof.Rows L2
open PySem.AutoSeq1 (wpAny_loadPart')
theorem entry_sift : entryFor table "_heapq.heapify.sift" = some Builtin.«_heapq.heapify.sift» := entryFor_of_tree (by kernel_rfl)
theorem entry_push : entryFor table "_heapq.heappush" = some Builtin.«_heapq.heappush» := entryFor_of_tree (by kernel_rfl)
theorem entry_pop : entryFor table "_heapq.heappop" = some Builtin.«_heapq.heappop» := entryFor_of_tree (by kernel_rfl)
theorem plain_sift : plainId "_heapq.heapify.sift" = true := by decide +kernel
theorem plain_push : plainId "_heapq.heappush" = true := by decide +kernel
theorem plain_pop : plainId "_heapq.heappop" = true := by decide +kernel
theorem kind_push : builtinKind "_heapq.heappush" = none := by kernel_rfl
theorem kind_pop : builtinKind "_heapq.heappop" = none := by kernel_rfl
theorem args_push (a b : Value) : argsOk "_heapq.heappush" ⟨[a, b], []⟩ := by unfold argsOk; kernel_rfl
theorem args_pop (a : Value) : argsOk "_heapq.heappop" ⟨[a], []⟩ := by unfold argsOk; kernel_rfl
/-- what stands on the heap: references to tuples, each told by its key -/
structure Keys (H : Hp) (key : V → List V) (vs : List V) : Prop where
  tup : ∀ v ∈ vs, ∃ t, v = .ref t ∧ H t = some (.tup (key v))
  like : ∀ v ∈ vs, ∀ u ∈ vs, ∀ p ∈ (key v).zip (key u), like p.1 p.2 = true
abbrev ltK (key : V → List V) (x y : V) : Bool := lexV (key x) (key y)
section
variable {X : Cx} {pins : List (Addr × Obj)} {σ : L2.St} {H : Hp} {s : Shared} {key : V → List V} {vs : List V} {a : Addr}
theorem Keys.upd (k : Keys H key vs) {us : List V} {ws : List V} (ha : H a = some (.lst us)) (hp : ∀ v ∈ ws, v ∈ vs) : Keys (upd H a (.lst ws)) key ws :=
  ⟨fun v hv => by
    obtain ⟨t, e, ht⟩ := k.tup v (hp v hv)
    have : t ≠ a := fun z => by
      subst z
      rw [ha] at ht
      cases ht
    exact ⟨t, e, by rw [upd_ne this]; exact ht⟩, fun v hv u hu => k.like v (hp v hv) u (hp u hu)⟩
theorem cmp_at (I : Inv X pins σ H s) (k : Keys H key vs) {x y : V} {u v : Value} (hx : x ∈ vs) (hy : y ∈ vs) (rx : RelV x u) (ry : RelV y v) {A : Around} (hu : A.units < cLine) {E : Value → Shared → Prop} {Q : Value → Shared → Prop} (h : Q (.bool (ltK key x y)) s) :
    wpAny (model X.prog X.w) A (richCompare .Lt u v) Q E s := by
  obtain ⟨t, rfl, ht⟩ := k.tup x hx
  obtain ⟨t', rfl, ht'⟩ := k.tup y hy
  cases rx
  cases ry
  obtain ⟨its, r1, p1, _⟩ := I.tuple (.inl (.inl ht))
  obtain ⟨its2, r2, p2, _⟩ := I.tuple (.inl (.inl ht'))
  exact (lt_tupKeys p1 p2 (by simpa using r1) (by simpa using r2) (k.like _ hx _ hy) hu h : wpAny (model X.prog X.w) A (compareOp .Lt _ _) Q E s)
abbrev siftArgs (a : Addr) (down : Bool) (pos : Nat) (res : Value) (t t2 t3 : Tok) : Args := ⟨[.ref a, .bool false, .bool down, .int (pos : Int) t, .int 0 t2, res, .int (-1) t3], []⟩
theorem vals_get {xs : List V} {us : List Value} {i : Nat} {x : V} (r : Vals xs us) (h : xs[i]? = some x) : ∃ u, us.toArray[i]? = some u ∧ RelV x u := by
  obtain ⟨u, h1, h2⟩ := r.get h
  exact ⟨u, by simpa using h1, h2⟩
theorem vals_swap {xs : List V} {us : List Value} {i j : Nat} {x y : V} {u v : Value} (r : Vals xs us) (hx : RelV x u) (hy : RelV y v) : Vals (swap xs i j x y) ((us.set i v).set j u) := Vals.set hx j (Vals.set hy i r)
/-- one step up -/
theorem up_code (o : Swo (ltK key)) (hu : X.A.units + 1 < cLine) {R : Result → Shared → Prop} {res : Value} :
    ∀ (p : Nat) (H : Hp) (s : Shared) (vs : List V) (t t2 t3 : Tok), Inv X pins σ H s → H a = some (.lst vs) → Keys H key vs → p < vs.length → Up (ltK key) vs p →
      (∀ s' vs', vs'.Perm vs → Heap (ltK key) vs' → Inv X pins σ (upd H a (.lst vs')) s' → R (.ok (.ret res)) s') →
      codeAny (model X.prog X.w) X.A (.builtin "_heapq.heapify.sift" (siftArgs a false p res t t2 t3)) R s := by
  intro p
  induction p using Nat.strongRecOn with
  | ind p ih =>
    intro H s vs t t2 t3 I hH hk hp hup fin
    obtain ⟨z, its, n, r, hl, e⟩ := I.lstM hH
    refine codeAny_builtin entry_sift ?_
    rw [Around.under_plainId plain_sift _]
    by_cases hp0 : p = 0
    · subst hp0
      have f := fin s vs (List.Perm.refl _) (up_done hup (.inl rfl)) (by
        have : upd H a (.lst vs) = H := by
          funext b
          by_cases c : b = a
          · subst c; rw [upd_same, hH]
          · rw [upd_ne c]
        rw [this]
        exact I)
      obtain ⟨hp, g, d, tk, os⟩ := s
      wp_walk using wpAny_loadPart' e
      exact f
    · obtain ⟨x, hx⟩ : ∃ x, vs[p]? = some x := ⟨_, List.getElem?_eq_getElem hp⟩
      obtain ⟨y, hy⟩ : ∃ y, vs[(p - 1) / 2]? = some y := ⟨_, List.getElem?_eq_getElem (by omega)⟩
      obtain ⟨u, hu1, ru⟩ := vals_get r hx
      obtain ⟨v, hv1, rv⟩ := vals_get r hy
      have hu2 : its.toArray[((p : Nat) : Int).toNat]? = some u := hu1
      have hv2 : its.toArray[(((p : Nat) : Int).toNat - 1) / 2]? = some v := hv1
      have hgt : ((p : Nat) : Int).toNat > Int.toNat 0 := by
        show p > 0
        omega
      have hc : ∀ (Q : Value → Shared → Prop) (E : Value → Shared → Prop), Q (.bool (ltK key x y)) s → wpAny (model X.prog X.w) X.A.in1 (richCompare .Lt u v) Q E s := fun Q E h => cmp_at I hk (List.mem_of_getElem? hx) (List.mem_of_getElem? hy) ru rv (show X.A.units + 1 < cLine from hu) h
      wp_walk using wpAny_loadPart' e
      refine PySem.wpAny_ite_true (decide_eq_true hgt) ?_
      wp_walk using wpAny_loadPart' e
      rw [hu2]
      wp_walk using wpAny_loadPart' e
      rw [hv2]
      wp_walk using wpAny_loadPart' e, hc
      cases hlt : ltK key x y with
      | false =>
        refine PySem.wpAny_ite_false (by decide) ?_
        wp_walk
        have f := fin s vs (List.Perm.refl _) (up_done hup (.inr fun a' b' h1 h2 => by
          rw [hx] at h1
          rw [hy] at h2
          cases h1
          cases h2
          exact hlt)) (by
          have : upd H a (.lst vs) = H := by
            funext b
            by_cases c : b = a
            · subst c; rw [upd_same, hH]
            · rw [upd_ne c]
          rw [this]
          exact I)
        exact f
      | true =>
        refine PySem.wpAny_ite_true rfl ?_
        wp_walk using wpAny_loadPart' e
        rw [hv2]
        wp_walk using wpAny_loadPart' e
        rw [hu2]
        wp_walk using wpAny_loadPart' e, (wpAny_updateSeq e rfl)
        have hI' := I.lset (ys := swap vs ((p - 1) / 2) p y x) (its' := (its.set ((p - 1) / 2) u).set p v) (f := fun xs => (xs.setIfInBounds ((p - 1) / 2) u).setIfInBounds p v) (t' := s.toks) hH e (by simp) (vals_swap r rv ru) (by rw [swap_len]; exact z)
        have hne : (p - 1) / 2 ≠ p := by omega
        have hperm := swap_perm hne hy hx
        refine ⟨plainId_quiet plain_sift _, ih ((p - 1) / 2) (by omega) _ _ (swap vs ((p - 1) / 2) p y x) 0 0 0 hI' upd_same (hk.upd hH fun w hw => hperm.mem_iff.mp hw) (by rw [swap_len]; omega) (up_step o hup (by omega) hx hy hlt) fun s' vs' hp' hh' I' => ?_⟩
        rw [upd_upd] at I'
        exact fin s' vs' (hp'.trans hperm) hh' I'
theorem down_code (o : Swo (ltK key)) (hu : X.A.units + 1 < cLine) {R : Result → Shared → Prop} {res : Value} :
    ∀ (m p : Nat) (H : Hp) (s : Shared) (vs : List V) (t t2 t3 : Tok), vs.length - p = m → Inv X pins σ H s → H a = some (.lst vs) → Keys H key vs → p < vs.length → Down (ltK key) vs p →
      (∀ s' vs', vs'.Perm vs → Heap (ltK key) vs' → Inv X pins σ (upd H a (.lst vs')) s' → R (.ok (.ret res)) s') →
      codeAny (model X.prog X.w) X.A (.builtin "_heapq.heapify.sift" (siftArgs a true p res t t2 t3)) R s := by
  intro m
  induction m using Nat.strongRecOn with
  | ind m ih =>
    intro p H s vs t t2 t3 hm I hH hk hp hdn fin
    obtain ⟨z, its, n, r, hl, e⟩ := I.lstM hH
    refine codeAny_builtin entry_sift ?_
    rw [Around.under_plainId plain_sift _]
    have hsz : its.toArray.size = vs.length := by rw [List.size_toArray, hl]
    by_cases hlt : p < vs.length / 2
    · have hlt2 : ((p : Nat) : Int).toNat < its.toArray.size / 2 := by
        rw [hsz]
        exact hlt
      obtain ⟨x, hx⟩ : ∃ x, vs[p]? = some x := ⟨_, List.getElem?_eq_getElem hp⟩
      obtain ⟨y, hy⟩ : ∃ y, vs[2 * p + 1]? = some y := ⟨_, List.getElem?_eq_getElem (by omega)⟩
      obtain ⟨u, hu1, ru⟩ := vals_get r hx
      obtain ⟨v, hv1, rv⟩ := vals_get r hy
      have hu2 : its.toArray[((p : Nat) : Int).toNat]? = some u := hu1
      have hv2 : its.toArray[2 * ((p : Nat) : Int).toNat + 1]? = some v := hv1
      -- the swap with the child c
      have step : ∀ (c : Nat) (y : V) (v : Value), 0 < c → (c - 1) / 2 = p → vs[c]? = some y → its.toArray[c]? = some v → RelV y v → (∀ (d : Nat) z, 0 < d → (d - 1) / 2 = p → d ≠ c → vs[d]? = some z → ltK key z y = false) →
          ∀ t t2 t3, codeAny (model X.prog X.w) X.A (.builtin "_heapq.heapify.sift" (siftArgs a true c res t t2 t3)) R { s with heap := s.heap.update a (Obj.mapSeq fun xs => (xs.setIfInBounds c u).setIfInBounds p v) } := fun c y v hc0 hc hy hv rv hs t t2 t3 => by
        have hI' := I.lset (ys := swap vs c p y x) (its' := (its.set c u).set p v) (f := fun xs => (xs.setIfInBounds c u).setIfInBounds p v) (t' := s.toks) hH e (by simp) (vals_swap r rv ru) (by rw [swap_len]; exact z)
        have hne : c ≠ p := by omega
        have hperm := swap_perm hne hy hx
        have hcl := (List.getElem?_eq_some_iff.mp hy).1
        refine ih (vs.length - c) (by omega) c _ _ (swap vs c p y x) t t2 t3 (by rw [swap_len]) hI' upd_same (hk.upd hH fun w hw => hperm.mem_iff.mp hw) (by rw [swap_len]; exact hcl) (down_step o hdn hc0 hc hx hy hs) fun s' vs' hp' hh' I' => ?_
        rw [upd_upd] at I'
        exact fin s' vs' (hp'.trans hperm) hh' I'
      by_cases hr : 2 * p + 1 + 1 < vs.length
      · obtain ⟨y2, hy2⟩ : ∃ y, vs[2 * p + 1 + 1]? = some y := ⟨_, List.getElem?_eq_getElem hr⟩
        obtain ⟨v2, hv3, rv2⟩ := vals_get r hy2
        have hv4 : its.toArray[2 * ((p : Nat) : Int).toNat + 1 + 1]? = some v2 := hv3
        have hr2 : 2 * ((p : Nat) : Int).toNat + 1 + 1 < its.toArray.size := by
          rw [hsz]
          exact hr
        have hc : ∀ (Q : Value → Shared → Prop) (E : Value → Shared → Prop), Q (.bool (ltK key y y2)) s → wpAny (model X.prog X.w) X.A.in1 (richCompare .Lt v v2) Q E s := fun Q E h => cmp_at I hk (List.mem_of_getElem? hy) (List.mem_of_getElem? hy2) rv rv2 (show X.A.units + 1 < cLine from hu) h
        wp_walk using wpAny_loadPart' e
        refine PySem.wpAny_ite_true (decide_eq_true hlt2) ?_
        wp_walk using wpAny_loadPart' e
        refine PySem.wpAny_ite_true (decide_eq_true hr2) ?_
        wp_walk using wpAny_loadPart' e
        rw [hv2]
        wp_walk using wpAny_loadPart' e
        rw [hv4]
        wp_walk using wpAny_loadPart' e, hc
        cases hlt : ltK key y y2 with
        | true =>
          refine PySem.wpAny_ite_false rfl ?_
          wp_walk using wpAny_loadPart' e
          rw [hv2]
          wp_walk using wpAny_loadPart' e
          rw [hu2]
          wp_walk using wpAny_loadPart' e, (wpAny_updateSeq e rfl)
          refine ⟨plainId_quiet plain_sift _, step (2 * p + 1) y v (by omega) (by omega) hy hv1 rv (fun d z' hd0 hdp hdc hz => ?_) 0 0 0⟩
          have : d = 2 * p + 1 + 1 := by omega
          subst this
          rw [hy2] at hz
          cases hz
          exact o.asym _ _ hlt
        | false =>
          refine PySem.wpAny_ite_true rfl ?_
          wp_walk using wpAny_loadPart' e
          rw [hv4]
          wp_walk using wpAny_loadPart' e
          rw [hu2]
          wp_walk using wpAny_loadPart' e, (wpAny_updateSeq e rfl)
          refine ⟨plainId_quiet plain_sift _, step (2 * p + 1 + 1) y2 v2 (by omega) (by omega) hy2 hv3 rv2 (fun d z' hd0 hdp hdc hz => ?_) 0 0 0⟩
          have : d = 2 * p + 1 := by omega
          subst this
          rw [hy] at hz
          cases hz
          exact hlt
      · have hr2 : ¬ 2 * ((p : Nat) : Int).toNat + 1 + 1 < its.toArray.size := by
          rw [hsz]
          exact hr
        wp_walk using wpAny_loadPart' e
        refine PySem.wpAny_ite_true (decide_eq_true hlt2) ?_
        wp_walk using wpAny_loadPart' e
        refine PySem.wpAny_ite_false (decide_eq_false hr2) ?_
        wp_walk using wpAny_loadPart' e
        rw [hv2]
        wp_walk using wpAny_loadPart' e
        rw [hu2]
        wp_walk using wpAny_loadPart' e, (wpAny_updateSeq e rfl)
        refine ⟨plainId_quiet plain_sift _, step (2 * p + 1) y v (by omega) (by omega) hy hv1 rv (fun d z' hd0 hdp hdc hz => ?_) 0 0 0⟩
        have := (List.getElem?_eq_some_iff.mp hz).1
        omega
    · have hlt2 : ¬ ((p : Nat) : Int).toNat < its.toArray.size / 2 := by
        rw [hsz]
        exact hlt
      wp_walk using wpAny_loadPart' e
      refine PySem.wpAny_ite_false (decide_eq_false hlt2) ?_
      wp_walk using wpAny_loadPart' e
      exact ⟨plainId_quiet plain_sift _, up_code o hu p H s vs 0 0 0 I hH hk hp (down_up hdn (by omega)) fin⟩
/-! ### the two functions, by values -/
theorem keys_perm {vs vs' : List V} (k : Keys H key vs) (h : vs'.Perm vs) : Keys H key vs' := ⟨fun v hv => k.tup v (h.mem_iff.mp hv), fun v hv u hu => k.like v (h.mem_iff.mp hv) u (h.mem_iff.mp hu)⟩
def rPush (key : V → List V) : List V → Hp → VK → Prop := fun xs H Q => ∃ a v vs, xs = [.ref a, v] ∧ H a = some (.lst vs) ∧ vs.length < sizeLine ∧ Keys H key (vs ++ [v]) ∧ Heap (ltK key) vs ∧
  ∀ vs', vs'.Perm (vs ++ [v]) → Heap (ltK key) vs' → Q .non (upd H a (.lst vs'))
def rPop (key : V → List V) : List V → Hp → VK → Prop := fun xs H Q => ∃ a vs, xs = [.ref a] ∧ H a = some (.lst vs) ∧ vs ≠ [] ∧ Keys H key vs ∧ Heap (ltK key) vs ∧
  ∀ v vs', (v :: vs').Perm vs → Heap (ltK key) vs' → (∀ u ∈ vs, ltK key u v = false) → Q v (upd H a (.lst vs'))
theorem call_in {prog : Program} {w : World} {A : Around} {E : Value → Shared → Prop} {s : Shared} {id : String} {B : Builtin} {args : List Value} {Q : Value → Shared → Prop} (kind : builtinKind id = none) (plain : plainId id = true) (entry : entryFor table id = some B) (ok : argsOk id ⟨args, []⟩)
    (h : wpAny (model prog w) A.in1 (B ⟨args, []⟩) (fun fin s' => match fin with | .done f => wants Q E (.ok f) s' | .again c' => c'.quiet = true ∧ codeAny (model prog w) A c' (wants Q E) s') (fun e s' => wants Q E (.error e) s') s) : wpAny (model prog w) A (call (.builtin id) args) Q E s := by
  refine wpAny_call (codeAny_call_builtin plain entry ?_)
  simp only [checkBuiltinCall, kind]
  cases hsig : Manifest.signature? id with
  | none => exact wpAny_pure h
  | some sig =>
    simp only [argsOk, hsig] at ok
    have h2 : Bind.checkArgs id sig ⟨args, []⟩ = pure () := ok
    show wpAny _ _ (Bind.checkArgs id sig ⟨args, []⟩) _ _ s
    rw [h2]
    exact wpAny_pure h
theorem sub_list_list : isSubtype (.type "list") (.type "list") = pure true := by rw [isSubtype_type]; kernel_rfl
theorem cr_push (o : Swo (ltK key)) (hu : X.A.units + 1 < cLine) : CallR X (.builtin "_heapq.heappush") (rPush key) := by
  intro pins s σ H xs us Q I r h
  obtain ⟨a, v, vs, rfl, hH, hz, hk, hh, q⟩ := h
  cases r with
  | cons r1 r =>
    cases r with
    | cons r2 r =>
      cases r
      cases r1
      rename_i u
      obtain ⟨z, its, n, r, hl, e⟩ := I.lstM hH
      have hT : s.TypeIs (.ref a) "list" := ⟨_, e, rfl⟩
      have f1 := sub_list_list
      refine call_in kind_push plain_push entry_push (args_push _ _) ?_
      have e2 := PySem.IsL.update e (fun xs => xs.push u)
      have I2 := I.lset (ys := vs ++ [v]) (its' := its ++ [u]) (f := fun xs => xs.push u) (t' := s.toks) hH e (by simp) (r.append (.cons r2 .nil)) (by rw [List.length_append]; exact hz)
      wp_walk using wpAny_loadPart' e, wpAny_typeOf hT, (wpAny_updateSeq e rfl)
      have hsz : (its.toArray.push u).size - 1 = vs.length := by
        rw [Array.size_push, List.size_toArray, hl]
        rfl
      rw [hsz]
      refine ⟨plainId_quiet plain_sift _, up_code (res := Value.none) o hu vs.length _ _ (vs ++ [v]) 0 0 0 I2 upd_same ⟨fun w hw => ?_, hk.like⟩ (by rw [List.length_append]; exact Nat.lt_succ_self _) (heap_push hh v) fun s' vs' hp hh' I' => ?_⟩
      · obtain ⟨t, e1, ht⟩ := hk.tup w hw
        have : t ≠ a := fun z => by
          subst z
          rw [hH] at ht
          cases ht
        exact ⟨t, e1, by rw [upd_ne this]; exact ht⟩
      · rw [upd_upd] at I'
        exact ⟨.non, _, I', rfl, q vs' hp hh'⟩
theorem cr_pop (o : Swo (ltK key)) (hu : X.A.units + 1 < cLine) : CallR X (.builtin "_heapq.heappop") (rPop key) := by
  intro pins s σ H xs us Q I r h
  obtain ⟨a, vs, rfl, hH, hne, hk, hh, q⟩ := h
  cases r with
  | cons r1 r =>
    cases r
    cases r1
    obtain ⟨z, its, n, r, hl, e⟩ := I.lstM hH
    have hT : s.TypeIs (.ref a) "list" := ⟨_, e, rfl⟩
    have f1 := sub_list_list
    refine call_in kind_pop plain_pop entry_pop (args_pop _) ?_
    -- the last one
    obtain ⟨us, l, rfl⟩ : ∃ us l, vs = us ++ [l] := ⟨vs.dropLast, vs.getLast hne, (List.dropLast_concat_getLast hne).symm⟩
    have hlen : its.length = us.length + 1 := by rw [← hl, List.length_append]; rfl
    obtain ⟨its0, ul, rfl⟩ : ∃ its0 ul, its = its0 ++ [ul] := by
      have h0 : its ≠ [] := fun e => by rw [e] at hlen; cases hlen
      exact ⟨its.dropLast, its.getLast h0, (List.dropLast_concat_getLast h0).symm⟩
    have hl0 : us.length = its0.length := by rw [List.length_append] at hlen; simp at hlen; omega
    obtain ⟨r0, rl⟩ : Vals us its0 ∧ RelV l ul := by
      have h1 := r.take us.length
      rw [List.take_left' rfl, hl0, List.take_left' rfl] at h1
      have h2 := r.drop us.length
      rw [List.drop_left' rfl, hl0, List.drop_left' rfl] at h2
      cases h2 with
      | cons h2 _ => exact ⟨h1, h2⟩
    have hback : (its0 ++ [ul]).toArray.back? = some ul := by simp
    have I1 := I.lset (ys := us) (its' := its0) (f := fun xs => xs.pop) (t' := s.toks) hH e (by simp) r0 (by rw [List.length_append] at z; omega)
    have e1 : (s.heap.update a (Obj.mapSeq fun xs => xs.pop)).get? a = some _ := PySem.IsL.update e (fun xs => xs.pop)
    wp_walk using wpAny_loadPart' e, wpAny_typeOf hT
    rw [hback]
    wp_walk using wpAny_loadPart' e, (wpAny_updateSeq e rfl)
    cases us with
    | nil =>
      cases its0 with
      | cons _ _ => cases hl0
      | nil =>
        refine PySem.wpAny_ite_true rfl ?_
        wp_walk
        exact ⟨l, _, I1, rl, q l [] (List.Perm.refl _) (fun i a b _ h => by simp at h) (fun u hu => by
          have : u = l := by simpa using hu
          subst this
          exact o.irr _)⟩
    | cons f0 us =>
      cases r0 with
      | cons rf r0 =>
        rename_i uf its0
        have hs1 : ((uf :: its0 ++ [ul]).toArray.size == 1) = false := by simp
        have hu0 : (uf :: its0 ++ [ul]).toArray[0]? = some uf := by simp
        have hpop : (uf :: its0 ++ [ul]).toArray.pop = (uf :: its0).toArray := by rw [List.pop_toArray, List.dropLast_concat]
        have hsl : sizeLine = 16777216 := rfl
        have hz1 : (uf :: its0).length ≤ sizeLine := by
          rw [List.length_append, List.length_cons] at z
          rw [List.length_cons] at hl0 ⊢
          rw [List.length_cons] at hl0
          omega
        refine PySem.wpAny_ite_false (by rw [hs1]; rfl) ?_
        have I2 := I1.lset (ys := l :: us) (its' := ul :: its0) (f := fun xs => xs.setIfInBounds 0 ul) (t' := s.toks) upd_same (n := if ((uf :: its0 ++ [ul]).toArray.pop.size == (uf :: its0 ++ [ul]).toArray.size) = true then n else n + 1) (by
          rw [← hpop]
          exact e1) (by simp) (.cons rl r0) (by rw [List.length_cons] at hl0 ⊢; rw [List.length_cons] at hl0 hz1; omega)
        have hzz : (uf :: its0 ++ [ul]).toArray.pop.size ≤ sizeLine := by
          rw [hpop, List.size_toArray]
          exact hz1
        have hzz' : ((fun x : Array Value => x.setIfInBounds 0 ul) (uf :: its0 ++ [ul]).toArray.pop).size ≤ sizeLine + 1 := by
          show (Array.setIfInBounds _ 0 ul).size ≤ _
          rw [Array.size_setIfInBounds]
          exact Nat.le_succ_of_le hzz
        wp_walk using wpAny_loadPart' e, (wpAny_updateSeq (f := fun x => x.setIfInBounds 0 ul) e1 rfl (hz := hzz) (_hz' := hzz'))
        rw [upd_upd] at I2
        have hm : ∀ u ∈ l :: us, u ∈ f0 :: us ++ [l] := fun u hu => by
          simp only [List.mem_cons, List.mem_append, List.not_mem_nil, or_false] at hu ⊢
          rcases hu with hu | hu
          · exact .inr hu
          · exact .inl (.inr hu)
        refine ⟨plainId_quiet plain_sift _, down_code (res := uf) o hu ((l :: us).length - 0) 0 _ _ (l :: us) 0 0 0 rfl I2 upd_same (hk.upd hH hm) (Nat.zero_lt_succ _) (heap_pop (xs := f0 :: us) hh rfl) fun s' vs' hp hh' I' => ?_⟩
        rw [upd_upd] at I'
        refine ⟨f0, _, I', rf, q f0 vs' ?_ hh' fun u hu => ?_⟩
        · refine (List.Perm.cons f0 hp).trans ?_
          show (f0 :: l :: us).Perm (f0 :: us ++ [l])
          exact List.Perm.cons f0 (List.perm_append_singleton l us).symm
        · obtain ⟨i, hi⟩ := List.mem_iff_getElem?.mp hu
          exact heap_min o hh (x := f0) rfl i u hi
end
end Hq

set_option maxRecDepth 100000
set_option maxHeartbeats 4000000
/-! a heap of (minutes, place, place) that is one's own -/
namespace Fw
open PySem PySem.Spec PyProof.Rows L2 Hq
open Evl (Ex)
structure Sto {α : Type} (lt : α → α → Bool) : Prop where
  irr : ∀ a, lt a a = false
  tr : ∀ a b c, lt a b = true → lt b c = true → lt a c = true
  tri : ∀ a b, lt a b = false → lt b a = false → a = b
theorem Sto.as {α : Type} {lt : α → α → Bool} (h : Sto lt) {a b : α} (e : lt a b = true) : lt b a = false := by
  cases q : lt b a with
  | false => rfl
  | true =>
    have := h.tr _ _ _ e q
    rw [h.irr] at this
    cases this
theorem Sto.lex {α β : Type} [DecidableEq α] {l1 : α → α → Bool} {l2 : β → β → Bool} (h1 : Sto l1) (h2 : Sto l2) : Sto (fun (x y : α × β) => if x.1 = y.1 then l2 x.2 y.2 else l1 x.1 y.1) := by
  refine ⟨fun a => ?_, fun a b c => ?_, fun a b => ?_⟩
  · simp only [if_true]
    exact h2.irr _
  · obtain ⟨a1, a2⟩ := a
    obtain ⟨b1, b2⟩ := b
    obtain ⟨c1, c2⟩ := c
    show (if a1 = b1 then l2 a2 b2 else l1 a1 b1) = true → (if b1 = c1 then l2 b2 c2 else l1 b1 c1) = true → (if a1 = c1 then l2 a2 c2 else l1 a1 c1) = true
    by_cases e : a1 = b1
    · subst e
      rw [if_pos rfl]
      by_cases e' : a1 = c1
      · subst e'
        rw [if_pos rfl, if_pos rfl]
        exact h2.tr _ _ _
      · rw [if_neg e', if_neg e']
        exact fun _ z => z
    · rw [if_neg e]
      by_cases e' : b1 = c1
      · subst e'
        rw [if_neg e]
        exact fun z _ => z
      · rw [if_neg e']
        intro p q
        have e2 : a1 ≠ c1 := fun z => by
          subst z
          rw [h1.as p] at q
          cases q
        rw [if_neg e2]
        exact h1.tr _ _ _ p q
  · obtain ⟨a1, a2⟩ := a
    obtain ⟨b1, b2⟩ := b
    show (if a1 = b1 then l2 a2 b2 else l1 a1 b1) = false → (if b1 = a1 then l2 b2 a2 else l1 b1 a1) = false → _
    by_cases e : a1 = b1
    · subst e
      rw [if_pos rfl, if_pos rfl]
      intro p q
      rw [show a2 = b2 from h2.tri _ _ p q]
    · rw [if_neg e, if_neg (fun z => e z.symm)]
      intro p q
      exact absurd (h1.tri _ _ p q) e
theorem Sto.swo {α : Type} {lt : α → α → Bool} (h : Sto lt) : Swo lt :=
  ⟨fun a b => h.as, fun a b c p q => by
    cases r : lt a c with
    | false => rfl
    | true =>
      cases s : lt b a with
      | true =>
        rw [h.tr _ _ _ s r] at q
        cases q
      | false =>
        rw [h.tri _ _ p s] at r
        rw [r] at q
        cases q⟩
theorem sto_int : Sto (fun (a b : Int) => decide (a < b)) :=
  ⟨fun a => by simp, fun a b c => by simp only [decide_eq_true_eq]; omega, fun a b => by simp only [decide_eq_false_iff_not]; omega⟩
theorem sto_str : Sto (fun (a b : Str) => decide (a.cps.toList < b.cps.toList)) :=
  ⟨fun a => by simp only [decide_eq_false_iff_not]; exact List.lt_irrefl _, fun a b c => by simp only [decide_eq_true_eq]; exact List.lt_trans, fun a b => by
    simp only [decide_eq_false_iff_not]
    intro p q
    have : a.cps.toList = b.cps.toList := List.le_antisymm (List.not_lt.mp q) (List.not_lt.mp p)
    obtain ⟨x⟩ := a
    obtain ⟨y⟩ := b
    congr 1
    exact Array.toList_inj.mp this⟩
abbrev Item := Int × Str × Str
def itemD (t : Item) : PyData := .tuple [.int t.1, .str t.2.1, .str t.2.2]
def keyI (t : Item) : List V := [.int t.1, .str t.2.1, .str t.2.2]
def ltI (a b : Item) : Bool := if a.1 = b.1 then (if a.2.1 = b.2.1 then decide (a.2.2.cps.toList < b.2.2.cps.toList) else decide (a.2.1.cps.toList < b.2.1.cps.toList)) else decide (a.1 < b.1)
theorem sto_item : Sto ltI := sto_int.lex (sto_str.lex sto_str)
theorem lexV_item (a b : Item) : lexV (keyI a) (keyI b) = ltI a b := by
  obtain ⟨a1, a2, a3⟩ := a
  obtain ⟨b1, b2, b3⟩ := b
  unfold keyI ltI
  show (if V.int a1 = V.int b1 then (if V.str a2 = V.str b2 then (if V.str a3 = V.str b3 then false else _) else _) else _) = _
  by_cases e1 : a1 = b1
  · subst e1
    rw [if_pos rfl, if_pos rfl]
    by_cases e2 : a2 = b2
    · subst e2
      rw [if_pos rfl, if_pos rfl]
      by_cases e3 : a3 = b3
      · subst e3
        rw [if_pos rfl]
        exact (sto_str.irr _).symm
      · rw [if_neg (fun z => e3 (by cases z; rfl))]
        rfl
    · rw [if_neg (fun z => e2 (by cases z; rfl)), if_neg e2]
      rfl
  · rw [if_neg (fun z => e1 (by cases z; rfl)), if_neg e1]
    rfl
def itemAt (G : Hp) : V → Item
  | .ref a => match G a with
    | some (.tup [.int m, .str x, .str y]) => (m, x, y)
    | _ => (0, ⟨#[]⟩, ⟨#[]⟩)
  | _ => (0, ⟨#[]⟩, ⟨#[]⟩)
theorem itemAt_dt {G : Hp} {v : V} {t : Item} (h : Dt G v (itemD t)) : itemAt G v = t ∧ ∃ a, v = .ref a ∧ G a = some (.tup (keyI t)) := by
  unfold itemD at h
  cases h with
  | @tup a ws _ ha hw =>
  cases hw with
  | cons r1 hw =>
  cases hw with
  | cons r2 hw =>
  cases hw with
  | cons r3 hw =>
  cases hw
  cases r1
  cases r2
  cases r3
  refine ⟨?_, a, rfl, ha⟩
  unfold itemAt
  simp only [ha]
abbrev keyG (G : Hp) (v : V) : List V := keyI (itemAt G v)
theorem swo_key (G : Hp) : Swo (ltK (keyG G)) := by
  have h := sto_item.swo
  refine ⟨fun a b => ?_, fun a b c => ?_⟩
  · show lexV _ _ = _ → lexV _ _ = _
    rw [lexV_item, lexV_item]
    exact h.asym _ _
  · show lexV _ _ = _ → lexV _ _ = _ → lexV _ _ = _
    rw [lexV_item, lexV_item, lexV_item]
    exact h.neg _ _ _
def HeapI (its : List Item) : Prop := Hq.Heap ltI its
abbrev Its (G : Hp) (ts : List V) (its : List Item) : Prop := Paired (fun v t => Dt G v (itemD t)) ts its
theorem its_of {G : Hp} : ∀ {its : List Item} {ts : List V}, DtA G ts (its.map itemD) → Its G ts its
  | [], _, h => by cases h; exact .nil
  | t :: its, _, h => by
    cases h with
    | cons h1 h2 => exact .cons h1 (its_of h2)
theorem its_to {G : Hp} : ∀ {its : List Item} {ts : List V}, Its G ts its → DtA G ts (its.map itemD)
  | _, _, .nil => .nil
  | _, _, .cons h t => .cons h (its_to t)
theorem its_map {G : Hp} : ∀ {its : List Item} {ts : List V}, Its G ts its → ts.map (itemAt G) = its
  | _, _, .nil => rfl
  | _, _, .cons h t => by rw [List.map_cons, (itemAt_dt h).1, its_map t]
theorem its_mem {G : Hp} {ts : List V} {its : List Item} (h : Its G ts its) {v : V} (hv : v ∈ ts) : ∃ t ∈ its, Dt G v (itemD t) := by
  induction h with
  | nil => cases hv
  | cons h t ih =>
    rcases List.mem_cons.mp hv with rfl | hv
    · exact ⟨_, List.mem_cons_self, h⟩
    · obtain ⟨t, h1, h2⟩ := ih hv
      exact ⟨t, List.mem_cons_of_mem _ h1, h2⟩
/-- values among those of a list of items are items -/
theorem its_sub {G : Hp} {ts : List V} {its : List Item} (h : Its G ts its) : ∀ {us : List V}, (∀ u ∈ us, u ∈ ts) → Its G us (us.map (itemAt G))
  | [], _ => .nil
  | u :: us, hs => by
    obtain ⟨t, _, ht⟩ := its_mem h (hs u List.mem_cons_self)
    refine .cons ?_ (its_sub h fun u hu => hs u (List.mem_cons_of_mem _ hu))
    show Dt G u (itemD (itemAt G u))
    rw [(itemAt_dt ht).1]
    exact ht
theorem heap_map {G : Hp} {ts : List V} : Hq.Heap (ltK (keyG G)) ts ↔ HeapI (ts.map (itemAt G)) := by
  unfold HeapI Hq.Heap
  constructor
  · intro h i a b hi ha hb
    rw [List.getElem?_map] at ha hb
    obtain ⟨x, hx, rfl⟩ := Option.map_eq_some_iff.mp ha
    obtain ⟨y, hy, rfl⟩ := Option.map_eq_some_iff.mp hb
    rw [← lexV_item]
    exact h i x y hi hx hy
  · intro h i x y hi hx hy
    show lexV _ _ = _
    rw [lexV_item]
    exact h i _ _ hi (by rw [List.getElem?_map, hx]; rfl) (by rw [List.getElem?_map, hy]; rfl)
theorem keys_its {G H : Hp} (gh : Ex G H) {ts : List V} {its : List Item} (h : Its G ts its) : Keys H (keyG G) ts := by
  refine ⟨fun v hv => ?_, fun v hv u hu p hp => ?_⟩
  · obtain ⟨t, _, ht⟩ := its_mem h hv
    obtain ⟨e, a, rfl, ha⟩ := itemAt_dt ht
    exact ⟨a, rfl, by unfold keyG; rw [e]; exact gh _ _ ha⟩
  · unfold keyG keyI at hp
    simp only [List.zip_cons_cons, List.zip_nil_right, List.mem_cons, List.not_mem_nil, or_false] at hp
    rcases hp with rfl | rfl | rfl <;> rfl
end Fw

set_option maxRecDepth 100000
set_option maxHeartbeats 4000000
namespace Fw
open PySem PySem.Spec PyProof.Rows L2 Hq
open Evl (Ex)
section
variable {X : Cx} {P : Program} {w : World} {K : PySem.W.Frag} {mg : Str → Option Value} {base : PySem.Heap} {k : Nat} {M : List (Option Str)} {GL BL : List Str} {cs cs' : List Cell} {pos p pos' p' : Pos} {Po : Po}
theorem pnm (nm : Nm X P w K mg base k M GL BL) {i : Nat} {x : Str} (h : M[i]? = some (some x)) : PE X (.Name x pos) (tVar i) :=
  pe_var (nm.pre i x h) (nm.vis x (List.mem_of_getElem? h)) (nm.dbg x (List.mem_of_getElem? h)).1 (nm.dbg x (List.mem_of_getElem? h)).2
theorem cr_pushE (hu : X.A.units + 1 < cLine) : CallR X (.builtin "_heapq.heappush") (fun xs H Q => ∃ key, Swo (ltK key) ∧ rPush key xs H Q) := fun pins s σ H xs us Q I r ⟨key, o, h⟩ => cr_push o hu pins s σ H xs us Q I r h
theorem cr_popE (hu : X.A.units + 1 < cLine) : CallR X (.builtin "_heapq.heappop") (fun xs H Q => ∃ key, Swo (ltK key) ∧ rPop key xs H Q) := fun pins s σ H xs us Q I r ⟨key, o, h⟩ => cr_pop o hu pins s σ H xs us Q I r h
theorem its_app {G : Hp} {ts us : List V} {its jts : List Item} (h : Its G ts its) (h' : Its G us jts) : Its G (ts ++ us) (its ++ jts) := by
  induction h with
  | nil => exact h'
  | cons h t ih => exact .cons h ih
/-- heappush(x, e) -/
theorem hpush (nm : Nm X P w K mg base k M GL BL) {f x : Str} {e : Expr} {its : List Item} {t : Item} (hs : Sel M cs x (.own (its.map itemD))) (he : XE X cs e (.dat (itemD t))) (hh : HeapI its) (hl : its.length < 90000) (hg : Has GL f) (hm : mg f = some (.builtin "_heapq.heappush"))
    (kk : ∀ its' : List Item, its'.Perm (its ++ [t]) → HeapI its' → ∃ cs', Upd M cs x (.own (its'.map itemD)) cs' ∧ Po.nx cs') (hst : starEach [.Name x p, e] X.env = (false, eval (.Name x p) X.env) :: starEach [e] X.env := by rfl) (hst1 : starEach [e] X.env = (false, eval e X.env) :: starEach [] X.env := by rfl) (hpl : (backTo pos' (starEach [e] X.env)).any (·.1) = false := by rfl)
    (hpl1 : (backTo pos' (starEach [] X.env)).any (·.1) = false := by rfl) (hsw : swapsWith (.Call (.Name f p') [.Name x p, e] [] pos') none pos.line X.env = pure false := by rfl) :
    XS X cs (.Expr (.Call (.Name f p') [.Name x p, e] [] pos') pos) Po := .mk fun {G0 H0 G H σ} en D r => by
  obtain ⟨i, h1, h2⟩ := hs.ix
  obtain ⟨v, hv, a, ts, rfl, g0, g1, g2, g3⟩ := en.ok i _ h2 (fun z => by cases z)
  refine ⟨_, ps_expr (pe_callBfun (cr_pushE nm.hu1) (nm.gl _ hg.mem).1 (by rw [nm.hmg]; exact hm) (pa_cons (pnm nm h1) (pa_cons pe_v pa_nil hst1) hst) (nm.gl _ hg.mem).2.1 hst hpl) hsw, ?_⟩
  refine ⟨_, hv, he en fun u G' H' x1 r1 => ?_⟩
  have i0 := its_of g3
  have i1 : Its G' ts its := its_of (dpa_mono x1.eg _ _ g3)
  have i2 : Its G' (ts ++ [u]) (its ++ [t]) := its_app i1 (.cons r1 .nil)
  have hle : ts.length = its.length := paired_len i1
  refine ⟨keyG G', swo_key G', a, u, ts, rfl, x1.eh _ _ g2, by rw [hle]; exact Evl.sz_lt (by omega), keys_its x1.gh i2, heap_map.mpr (by rw [its_map i1]; exact hh), fun vs' hp hh' => ?_⟩
  obtain ⟨cs', hu', kk⟩ := kk (vs'.map (itemAt G')) (by rw [← its_map i2]; exact hp.map _) (heap_map.mp hh')
  obtain ⟨i', h1', rfl⟩ := hu'.ix
  have : i = i' := nodup_ix nm.nd (nm.pre i x h1) (nm.pre i' x h1')
  subst this
  exact r.nx _ _ _ _ kk ((en.step x1).mutL h2 hv (its_to (its_sub i2 fun u hu => hp.mem_iff.mp hu))) x1.eg
/-- t = heappop(x) -/
theorem hpop (nm : Nm X P w K mg base k M GL BL) {f x : Str} {tg : Expr} {its : List Item} (hs : Sel M cs x (.own (its.map itemD))) (hh : HeapI its) (hne : its ≠ []) (hg : Has GL f) (hm : mg f = some (.builtin "_heapq.heappop"))
    (kk : ∀ (t : Item) (its' : List Item), (t :: its').Perm its → HeapI its' → (∀ u ∈ its, ltI u t = false) → ∃ cs', Upd M cs x (.own (its'.map itemD)) cs' ∧ XG X cs' tg (itemD t) Po.nx) (hst : starEach [.Name x p] X.env = (false, eval (.Name x p) X.env) :: starEach [] X.env := by rfl) (hpl : (backTo pos' (starEach [] X.env)).any (·.1) = false := by rfl)
    (hss : swapsWithSole [tg] (.Call (.Name f p') [.Name x p] [] pos') pos.line X.env = pure false := by rfl) (hw : swappedStores [tg] (.Call (.Name f p') [.Name x p] [] pos') X.env = pure none := by rfl) (ha1 : (assignEach [tg] X.env).map (·.2) = [assign tg X.env] := by rfl) :
    XS X cs (.Assign [tg] (.Call (.Name f p') [.Name x p] [] pos') pos) Po := .mk fun {G0 H0 G H σ} en D r => by
  obtain ⟨i, h1, h2⟩ := hs.ix
  obtain ⟨v, hv, a, ts, rfl, g0, g1, g2, g3⟩ := en.ok i _ h2 (fun z => by cases z)
  refine ⟨_, ps_asg (pe_callBfun (cr_popE nm.hu1) (nm.gl _ hg.mem).1 (by rw [nm.hmg]; exact hm) (pa_cons (pnm nm h1) pa_nil hst) (nm.gl _ hg.mem).2.1 hst hpl) pg_v hss hw ha1, ?_⟩
  have i1 : Its G ts its := its_of g3
  refine ⟨_, hv, keyG G, swo_key G, a, ts, rfl, g2, fun z => hne (by cases i1 with | nil => rfl | cons _ _ => cases z), keys_its en.gh i1, heap_map.mpr (by rw [its_map i1]; exact hh), fun v vs' hp hh' hmin => ?_⟩
  have i2 : Its G (v :: vs') ((v :: vs').map (itemAt G)) := its_sub i1 fun u hu => hp.mem_iff.mp hu
  have hv' : v ∈ ts := hp.mem_iff.mp List.mem_cons_self
  obtain ⟨cs', hu', kk⟩ := kk (itemAt G v) (vs'.map (itemAt G)) (by rw [← its_map i1]; exact hp.map _) (heap_map.mp hh') (fun u hu => by
    rw [← its_map i1] at hu
    obtain ⟨z, hz, rfl⟩ := List.mem_map.mp hu
    rw [← lexV_item]
    exact hmin z hz)
  obtain ⟨i', h1', rfl⟩ := hu'.ix
  have : i = i' := nodup_ix nm.nd (nm.pre i x h1) (nm.pre i' x h1')
  subst this
  cases i2 with
  | cons r1 i3 => exact kk (en.mutL h2 hv (its_to i3)) r1 fun G' H' σ' cs'' a b c => r.nx _ _ _ _ a b c
end
end Fw

set_option maxRecDepth 100000
set_option maxHeartbeats 4000000
/-! quickest ways: what stands at each turn -/
namespace Dj
open PySem Fw
abbrev Rw := Str × Str × Int
abbrev Fd := Str × Int × Str
def legs (L : List Rw) (h : Str) : List (Str × Int) := (L.filter fun r => decide (r.1 = h)).map fun r => (r.2.1, r.2.2)
def pushed (L : List Rw) (h : Str) (m : Int) : List Item := (legs L h).map fun g => (m + g.2, g.1, h)
def Tgt (L : List Rw) (src : Str) (F : List Fd) (m : Int) (h b : Str) : Prop := (m = 0 ∧ h = src ∧ b = src) ∨ ∃ mb w bb, (b, mb, bb) ∈ F ∧ (b, h, w) ∈ L ∧ m = mb + w
structure Inv (L : List Rw) (src : Str) (F : List Fd) (W : List Item) : Prop where
  nd : (F.map (·.1)).Nodup
  j1 : ∀ t ∈ W, Tgt L src F t.1 t.2.1 t.2.2
  j2 : ∀ f ∈ F, Tgt L src F f.2.1 f.1 f.2.2
  j3 : ∀ r ∈ L, ∀ f ∈ F, f.1 = r.1 → (∃ g ∈ F, g.1 = r.2.1 ∧ g.2.1 ≤ f.2.1 + r.2.2) ∨ (f.2.1 + r.2.2, r.2.1, r.1) ∈ W
  j4 : ∀ f ∈ F, ∀ t ∈ W, f.2.1 ≤ t.1
  j5 : (src, 0, src) ∈ F ∨ (F = [] ∧ W = [(0, src, src)])
  wl : W.length ≤ 1 + F.length * L.length
/-- what explored tells -/
structure Best (L : List Rw) (src : Str) (F : List Fd) : Prop where
  nd : (F.map (·.1)).Nodup
  tight : ∀ f ∈ F, Tgt L src F f.2.1 f.1 f.2.2
  under : ∀ r ∈ L, ∀ f ∈ F, f.1 = r.1 → ∃ g ∈ F, g.1 = r.2.1 ∧ g.2.1 ≤ f.2.1 + r.2.2
  src : (src, 0, src) ∈ F
section
variable {L : List Rw} {src : Str} {F : List Fd} {W W' W'' : List Item} {t : Item}
theorem Tgt.mono {F' : List Fd} (h : ∀ f ∈ F, f ∈ F') {m : Int} {a b : Str} : Tgt L src F m a b → Tgt L src F' m a b
  | .inl z => .inl z
  | .inr ⟨mb, w, bb, h1, h2⟩ => .inr ⟨mb, w, bb, h _ h1, h2⟩
theorem nodup_len {α : Type} [DecidableEq α] : ∀ {l m : List α}, l.Nodup → (∀ x ∈ l, x ∈ m) → l.length ≤ m.length
  | [], _, _, _ => Nat.zero_le _
  | x :: l, m, nd, h => by
    rw [List.nodup_cons] at nd
    have hx := h x List.mem_cons_self
    have h1 := nodup_len (l := l) (m := m.erase x) nd.2 fun y hy => (List.mem_erase_of_ne (fun z => nd.1 (by rw [← z]; exact hy))).mpr (h y (List.mem_cons_of_mem _ hy))
    rw [List.length_erase_of_mem hx] at h1
    have : 0 < m.length := List.length_pos_of_mem hx
    rw [List.length_cons]
    omega
theorem Inv.fl (I : Inv L src F W) : F.length ≤ L.length + 1 := by
  have h := nodup_len (m := src :: L.map (·.2.1)) I.nd fun x hx => by
    obtain ⟨f, hf, rfl⟩ := List.mem_map.mp hx
    rcases I.j2 f hf with ⟨_, h, _⟩ | ⟨mb, w, bb, _, h, _⟩
    · rw [h]
      exact List.mem_cons_self
    · exact List.mem_cons_of_mem _ (List.mem_map.mpr ⟨_, h, rfl⟩)
  rw [List.length_map, List.length_cons, List.length_map] at h
  exact h
theorem Inv.init : Inv L src [] [(0, src, src)] :=
  ⟨.nil, (fun t ht => (by
    rw [List.mem_singleton.mp ht]
    exact .inl ⟨rfl, rfl, rfl⟩)), (fun f hf => nomatch hf), (fun _ _ f hf => nomatch hf), (fun f hf => nomatch hf), .inr ⟨rfl, rfl⟩, (by simp)⟩
theorem Inv.fin (I : Inv L src F []) : Best L src F :=
  ⟨I.nd, I.j2, fun r hr f hf e => (I.j3 r hr f hf e).resolve_right (fun z => by cases z), I.j5.resolve_right fun z => by cases z.2⟩
theorem min_of (h : ∀ u ∈ W, ltI u t = false) : ∀ u ∈ W, t.1 ≤ u.1 := fun u hu => by
  have := h u hu
  unfold ltI at this
  by_cases e : u.1 = t.1
  · omega
  · rw [if_neg e] at this
    simp only [decide_eq_false_iff_not] at this
    omega
theorem Inv.skip (I : Inv L src F W) (hp : (t :: W').Perm W) (hk : ∃ g ∈ F, g.1 = t.2.1) : Inv L src F W' ∧ W'.length < W.length := by
  have sub : ∀ u ∈ W', u ∈ W := fun u hu => hp.mem_iff.mp (List.mem_cons_of_mem _ hu)
  have ht : t ∈ W := hp.mem_iff.mp List.mem_cons_self
  have hl := hp.length_eq
  rw [List.length_cons] at hl
  refine ⟨⟨I.nd, fun u hu => I.j1 u (sub u hu), I.j2, fun r hr f hf e => ?_, fun f hf u hu => I.j4 f hf u (sub u hu), ?_, by have := I.wl; omega⟩, by omega⟩
  · rcases I.j3 r hr f hf e with h | h
    · exact .inl h
    · have := hp.mem_iff.mpr h
      rcases List.mem_cons.mp this with q | q
      · obtain ⟨g, hg, eg⟩ := hk
        refine .inl ⟨g, hg, by rw [eg, ← q], ?_⟩
        have := I.j4 g hg t ht
        rw [← q] at this
        exact this
      · exact .inr q
  · rcases I.j5 with h | ⟨h, _⟩
    · exact .inl h
    · obtain ⟨g, hg, _⟩ := hk
      rw [h] at hg
      cases hg
theorem mem_legs {h g : Str} {w : Int} : (g, w) ∈ legs L h ↔ (h, g, w) ∈ L := by
  unfold legs
  rw [List.mem_map]
  constructor
  · rintro ⟨⟨a, b, c⟩, h1, h2⟩
    rw [List.mem_filter] at h1
    obtain ⟨h1, h3⟩ := h1
    simp only [decide_eq_true_eq] at h3
    cases h2
    subst h3
    exact h1
  · intro h1
    exact ⟨(h, g, w), List.mem_filter.mpr ⟨h1, by simp⟩, rfl⟩
theorem legs_len {h : Str} : (legs L h).length ≤ L.length := by
  unfold legs
  rw [List.length_map]
  exact List.length_filter_le _ _
theorem Inv.take (I : Inv L src F W) (hL : ∀ r ∈ L, 0 ≤ r.2.2) (hp : (t :: W').Perm W) (hm : ∀ u ∈ W, t.1 ≤ u.1) (hk : ∀ g ∈ F, g.1 ≠ t.2.1) (hq : W''.Perm (W' ++ pushed L t.2.1 t.1)) :
    Inv L src (F ++ [(t.2.1, t.1, t.2.2)]) W'' ∧ W''.length + 1 ≤ W.length + L.length := by
  obtain ⟨m, h, b⟩ := t
  have sub : ∀ u ∈ W', u ∈ W := fun u hu => hp.mem_iff.mp (List.mem_cons_of_mem _ hu)
  have ht : (m, h, b) ∈ W := hp.mem_iff.mp List.mem_cons_self
  have hl := hp.length_eq
  rw [List.length_cons] at hl
  have hl2 : W''.length = (W' ++ pushed L h m).length := hq.length_eq
  have hl3 : (pushed L h m).length ≤ L.length := by
    unfold pushed
    rw [List.length_map]
    exact legs_len
  rw [List.length_append] at hl2
  have wl := I.wl
  have fsub : ∀ f ∈ F, f ∈ F ++ [(h, m, b)] := fun f hf => List.mem_append_left _ hf
  have new : (h, m, b) ∈ F ++ [(h, m, b)] := List.mem_append_right _ List.mem_cons_self
  have hm : ∀ u ∈ W, m ≤ u.1 := hm
  have mem'' : ∀ u, u ∈ W'' → u ∈ W' ∨ ∃ g w, (h, g, w) ∈ L ∧ u = (m + w, g, h) := fun u hu => by
    rcases List.mem_append.mp (hq.mem_iff.mp hu) with q | q
    · exact .inl q
    · obtain ⟨⟨g, w⟩, h1, h2⟩ := List.mem_map.mp q
      exact .inr ⟨g, w, mem_legs.mp h1, h2.symm⟩
  refine ⟨⟨?_, fun u hu => ?_, fun f hf => ?_, fun r hr f hf e => ?_, fun f hf u hu => ?_, .inl ?_, ?_⟩, by omega⟩
  · rw [List.map_append, List.nodup_append]
    refine ⟨I.nd, by simp, fun x hx y hy z => ?_⟩
    rw [List.mem_singleton.mp hy] at z
    obtain ⟨f, hf, e⟩ := List.mem_map.mp hx
    exact hk f hf (by rw [e, z])
  · rcases mem'' u hu with q | ⟨g, w, h1, rfl⟩
    · exact (I.j1 u (sub u q)).mono fsub
    · exact .inr ⟨m, w, b, new, h1, rfl⟩
  · rcases List.mem_append.mp hf with q | q
    · exact (I.j2 f q).mono fsub
    · rw [List.mem_singleton.mp q]
      exact (I.j1 _ ht).mono fsub
  · rcases List.mem_append.mp hf with q | q
    · rcases I.j3 r hr f q e with ⟨g, hg, h1⟩ | z
      · exact .inl ⟨g, fsub g hg, h1⟩
      · rcases List.mem_cons.mp (hp.mem_iff.mpr z) with z | z
        · refine .inl ⟨_, new, ?_, ?_⟩
          · rw [← (Prod.mk.inj (Prod.mk.inj z).2).1]
          · show m ≤ _
            rw [← (Prod.mk.inj z).1]
            exact Int.le_refl _
        · exact .inr (hq.mem_iff.mpr (List.mem_append_left _ z))
    · have q := List.mem_singleton.mp q
      subst q
      obtain ⟨r1, r2, r3⟩ := r
      have e : h = r1 := e
      subst e
      exact .inr (hq.mem_iff.mpr (List.mem_append_right _ (List.mem_map.mpr ⟨(r2, r3), mem_legs.mpr hr, rfl⟩)))
  · have base : f.2.1 ≤ m := by
      rcases List.mem_append.mp hf with q | q
      · exact I.j4 f q _ ht
      · rw [List.mem_singleton.mp q]
        exact Int.le_refl _
    rcases mem'' u hu with q | ⟨g, w, h1, rfl⟩
    · exact Int.le_trans base (hm u (sub u q))
    · have := hL _ h1
      have this : 0 ≤ w := this
      show f.2.1 ≤ m + w
      omega
  · rcases I.j5 with q | ⟨_, q⟩
    · exact fsub _ q
    · rw [q] at ht
      have := List.mem_singleton.mp ht
      cases this
      exact new
  · rw [List.length_append, List.length_singleton, Nat.add_mul, Nat.one_mul]
    omega
def mu (L : List Rw) (F : List Fd) (W : List Item) : Nat := (L.length + 1 - F.length) * (L.length + 1) + W.length
theorem mu_take {F' : List Fd} (h1 : F'.length = F.length + 1) (h2 : F'.length ≤ L.length + 1) (h3 : W''.length + 1 ≤ W.length + L.length) : mu L F' W'' < mu L F W := by
  unfold mu
  rw [h1]
  have : L.length + 1 - F.length = (L.length + 1 - (F.length + 1)) + 1 := by omega
  rw [this, Nat.add_mul, Nat.one_mul]
  omega
theorem mu_skip (h : W'.length < W.length) : mu L F W' < mu L F W := by
  unfold mu
  omega
end
end Dj

set_option maxRecDepth 100000
set_option maxHeartbeats 4000000
/-! least minutes are unique -/
namespace Dj
open PySem Fw
theorem filter_lt {α : Type} {p q : α → Bool} (h : ∀ a, p a = true → q a = true) : ∀ {l : List α} {x : α}, x ∈ l → q x = true → p x = false → (l.filter p).length < (l.filter q).length
  | a :: l, x, hx, hq, hp => by
    have le : ∀ l : List α, (l.filter p).length ≤ (l.filter q).length := fun l => by
      induction l with
      | nil => exact Nat.le_refl _
      | cons a l ih =>
        rw [List.filter_cons, List.filter_cons]
        cases e : p a with
        | true =>
          rw [h a e]
          simp only [if_true, List.length_cons]
          omega
        | false =>
          simp only [Bool.false_eq_true, if_false]
          split
          · rw [List.length_cons]
            omega
          · exact ih
    rw [List.filter_cons, List.filter_cons]
    rcases List.mem_cons.mp hx with rfl | hx
    · rw [hp, hq]
      simp only [Bool.false_eq_true, if_false, if_true, List.length_cons]
      have := le l
      omega
    · have ih := filter_lt h hx hq hp
      cases e : p a with
      | true =>
        rw [h a e]
        simp only [if_true, List.length_cons]
        omega
      | false =>
        simp only [Bool.false_eq_true, if_false]
        split
        · rw [List.length_cons]
          omega
        · exact ih
section
variable {L : List Rw} {src : Str} {F F1 F2 : List Fd}
/-- what holds at the source and over each tight road holds everywhere -/
theorem Best.ind (B : Best L src F) (hL : ∀ r ∈ L, 1 ≤ r.2.2) (Q : Str → Int → Prop) (h0 : Q src 0) (hs : ∀ b mb bb h w, (b, mb, bb) ∈ F → (b, h, w) ∈ L → Q b mb → Q h (mb + w)) : ∀ f ∈ F, Q f.1 f.2.1 := by
  have key : ∀ n : Nat, ∀ f ∈ F, (F.filter fun g => decide (g.2.1 < f.2.1)).length ≤ n → Q f.1 f.2.1 := fun n => by
    induction n with
    | zero =>
      intro f hf hn
      rcases B.tight f hf with ⟨h1, h2, _⟩ | ⟨mb, w, bb, h1, h2, h3⟩
      · rw [h1, h2]
        exact h0
      · have hw := hL _ h2
        have hw : 1 ≤ w := hw
        have : ((f.2.2, mb, bb) : Fd) ∈ F.filter fun g => decide (g.2.1 < f.2.1) := List.mem_filter.mpr ⟨h1, by simp only [decide_eq_true_eq]; omega⟩
        have := List.length_pos_of_mem this
        omega
    | succ n ih =>
      intro f hf hn
      rcases B.tight f hf with ⟨h1, h2, _⟩ | ⟨mb, w, bb, h1, h2, h3⟩
      · rw [h1, h2]
        exact h0
      · have hw := hL _ h2
        have hw : 1 ≤ w := hw
        rw [h3]
        refine hs f.2.2 mb bb f.1 w h1 h2 (ih _ h1 ?_)
        have := filter_lt (p := fun g : Fd => decide (g.2.1 < mb)) (q := fun g : Fd => decide (g.2.1 < f.2.1)) (fun a z => by
          simp only [decide_eq_true_eq] at z ⊢
          omega) h1 (by simp only [decide_eq_true_eq]; omega) (by simp only [decide_eq_false_iff_not]; omega)
        show (F.filter fun g : Fd => decide (g.2.1 < mb)).length ≤ n
        omega
  exact fun f hf => key _ f hf (Nat.le_refl _)
theorem Best.nonneg (B : Best L src F) (hL : ∀ r ∈ L, 1 ≤ r.2.2) : ∀ f ∈ F, 0 ≤ f.2.1 :=
  B.ind hL (fun _ m => 0 ≤ m) (Int.le_refl _) fun b mb bb h w _ h2 h3 => by
    have := hL _ h2
    have this : 1 ≤ w := this
    omega
theorem Best.le (B1 : Best L src F1) (B2 : Best L src F2) (hL : ∀ r ∈ L, 1 ≤ r.2.2) : ∀ f ∈ F1, ∃ g ∈ F2, g.1 = f.1 ∧ g.2.1 ≤ f.2.1 :=
  B1.ind hL (fun h m => ∃ g ∈ F2, g.1 = h ∧ g.2.1 ≤ m) ⟨_, B2.src, rfl, Int.le_refl _⟩ fun b mb bb h w _ h2 ⟨g, hg, e, hle⟩ => by
    obtain ⟨g', hg', e', hle'⟩ := B2.under _ h2 g hg e
    have hle' : g'.2.1 ≤ g.2.1 + w := hle'
    exact ⟨g', hg', e', by omega⟩
theorem key_uniq : ∀ {F : List Fd}, (F.map (·.1)).Nodup → ∀ f ∈ F, ∀ g ∈ F, f.1 = g.1 → f = g
  | a :: F, nd, f, hf, g, hg, e => by
    rw [List.map_cons, List.nodup_cons] at nd
    rcases List.mem_cons.mp hf with rfl | hf
    · rcases List.mem_cons.mp hg with rfl | hg
      · rfl
      · exact absurd (List.mem_map.mpr ⟨g, hg, e.symm⟩) nd.1
    · rcases List.mem_cons.mp hg with rfl | hg
      · exact absurd (show g.1 ∈ F.map (·.1) from List.mem_map.mpr ⟨f, by assumption, e⟩) nd.1
      · exact key_uniq nd.2 f hf g hg e
/-- two answers agree -/
theorem Best.same (B1 : Best L src F1) (B2 : Best L src F2) (hL : ∀ r ∈ L, 1 ≤ r.2.2) : ∀ f ∈ F1, ∃ g ∈ F2, g.1 = f.1 ∧ g.2.1 = f.2.1 := fun f hf => by
  obtain ⟨g, hg, e, h1⟩ := B1.le B2 hL f hf
  obtain ⟨f', hf', e', h2⟩ := B2.le B1 hL g hg
  have := key_uniq B1.nd f' hf' f hf (by rw [e', e])
  subst this
  exact ⟨g, hg, e, Int.le_antisymm h1 h2⟩
theorem Best.len (B1 : Best L src F1) (B2 : Best L src F2) (hL : ∀ r ∈ L, 1 ≤ r.2.2) : F1.length = F2.length := by
  have key : ∀ {A B : List Fd}, Best L src A → Best L src B → A.length ≤ B.length := fun {A B} BA BB => by
    have := nodup_len (m := B.map (·.1)) BA.nd fun x hx => by
      obtain ⟨f, hf, rfl⟩ := List.mem_map.mp hx
      obtain ⟨g, hg, e, _⟩ := BA.same BB hL f hf
      exact List.mem_map.mpr ⟨g, hg, e⟩
    rw [List.length_map, List.length_map] at this
    exact this
  exact Nat.le_antisymm (key B1 B2) (key B2 B1)
end
end Dj

set_option maxRecDepth 100000
set_option maxHeartbeats 4000000
/-! an answer there is; the least minutes as a function; how roads are gone over in turns -/
namespace Dj
open PySem Fw
theorem ltI_asym {a b : Item} (h : ltI a b = true) : ltI b a = false := sto_item.as h
theorem least_item : ∀ {W : List Item}, W ≠ [] → ∃ t ∈ W, ∀ u ∈ W, ltI u t = false
  | [], h => absurd rfl h
  | [t], _ => ⟨t, List.mem_cons_self, fun u hu => by rw [List.mem_singleton.mp hu]; exact sto_item.irr t⟩
  | t :: s :: W, _ => by
    obtain ⟨v, hv, h⟩ := least_item (W := s :: W) (by simp)
    cases e : ltI t v with
    | true =>
      refine ⟨t, List.mem_cons_self, fun u hu => ?_⟩
      rcases List.mem_cons.mp hu with rfl | hu
      · exact sto_item.irr _
      · cases q : ltI u t with
        | false => rfl
        | true =>
          have := sto_item.tr _ _ _ q e
          rw [h u hu] at this
          cases this
    | false =>
      refine ⟨v, List.mem_cons_of_mem _ hv, fun u hu => ?_⟩
      rcases List.mem_cons.mp hu with rfl | hu
      · exact e
      · exact h u hu
theorem Inv.ends {L : List Rw} {src : Str} (hL : ∀ r ∈ L, 0 ≤ r.2.2) : ∀ (n : Nat) {F : List Fd} {W : List Item}, mu L F W ≤ n → Inv L src F W → ∃ F', Best L src F' := fun n => by
  induction n with
  | zero =>
    intro F W hn I
    have : W = [] := by
      unfold mu at hn
      exact List.length_eq_zero_iff.mp (by omega)
    subst this
    exact ⟨F, I.fin⟩
  | succ n ih =>
    intro F W hn I
    by_cases hW : W = []
    · subst hW
      exact ⟨F, I.fin⟩
    obtain ⟨t, ht, hmin⟩ := least_item hW
    have hp : (t :: W.erase t).Perm W := (List.perm_cons_erase ht).symm
    by_cases hk : ∃ g ∈ F, g.1 = t.2.1
    · obtain ⟨I', hl⟩ := I.skip hp hk
      have := mu_skip (L := L) (F := F) hl
      exact ih (by omega) I'
    · obtain ⟨I', hl⟩ := I.take hL hp (min_of hmin) (fun g hg e => hk ⟨g, hg, e⟩) (List.Perm.refl _)
      have := mu_take (L := L) (F := F) (F' := F ++ [(t.2.1, t.1, t.2.2)]) (by rw [List.length_append]; rfl) I'.fl hl
      exact ih (by omega) I'
theorem best_ex {L : List Rw} {src : Str} (hL : ∀ r ∈ L, 0 ≤ r.2.2) : ∃ F, Best L src F := Inv.ends hL _ (Nat.le_refl _) (Inv.init (L := L) (src := src))
/-- what F says of a place -/
def at? (F : List Fd) (h : Str) : Option Int := (F.find? fun f => decide (f.1 = h)).map fun f => f.2.1
theorem at_some {F : List Fd} {h : Str} {m : Int} (e : at? F h = some m) : ∃ b, (h, m, b) ∈ F := by
  unfold at? at e
  obtain ⟨f, h1, h2⟩ := Option.map_eq_some_iff.mp e
  have := List.find?_some h1
  simp only [decide_eq_true_eq] at this
  refine ⟨f.2.2, ?_⟩
  rw [← this, ← h2]
  exact List.mem_of_find?_eq_some h1
theorem at_none {F : List Fd} {h : Str} (e : at? F h = none) : ∀ f ∈ F, f.1 ≠ h := by
  unfold at? at e
  rw [Option.map_eq_none_iff, List.find?_eq_none] at e
  intro f hf z
  exact e f hf (decide_eq_true z)
theorem at_mem {F : List Fd} (nd : (F.map (·.1)).Nodup) {f : Fd} (hf : f ∈ F) : at? F f.1 = some f.2.1 := by
  cases e : at? F f.1 with
  | none => exact absurd rfl (at_none e f hf)
  | some m =>
    obtain ⟨b, hb⟩ := at_some e
    have := key_uniq nd _ hb f hf rfl
    rw [← this]
open Classical in
/-- the least minutes by roads, if there is a way -/
noncomputable def dist (L : List Rw) (src h : Str) : Option Int := if x : ∃ F, Best L src F then at? (choose x) h else none
section
variable {L : List Rw} {src : Str} {F F1 F2 : List Fd}
theorem Best.at_eq (B1 : Best L src F1) (B2 : Best L src F2) (hL : ∀ r ∈ L, 1 ≤ r.2.2) (h : Str) : at? F1 h = at? F2 h := by
  cases e : at? F1 h with
  | some m =>
    obtain ⟨b, hb⟩ := at_some e
    obtain ⟨g, hg, e1, e2⟩ := B1.same B2 hL _ hb
    have e1 : g.1 = h := e1
    have e2 : g.2.1 = m := e2
    rw [← e1, at_mem B2.nd hg, e2]
  | none =>
    cases e' : at? F2 h with
    | none => rfl
    | some m =>
      obtain ⟨b, hb⟩ := at_some e'
      obtain ⟨g, hg, e1, e2⟩ := B2.same B1 hL _ hb
      exact absurd e1 (at_none e g hg)
theorem Best.dist_eq (B : Best L src F) (hL : ∀ r ∈ L, 1 ≤ r.2.2) (h : Str) : dist L src h = at? F h := by
  unfold dist
  have x : ∃ F, Best L src F := ⟨F, B⟩
  rw [dif_pos x]
  exact (Classical.choose_spec x).at_eq B hL h
theorem dist_src (hL : ∀ r ∈ L, 1 ≤ r.2.2) : dist L src src = some 0 := by
  obtain ⟨F, B⟩ := best_ex (L := L) (src := src) fun r hr => by have := hL r hr; omega
  rw [B.dist_eq hL]
  exact at_mem B.nd B.src
theorem dist_road (hL : ∀ r ∈ L, 1 ≤ r.2.2) {r : Rw} (hr : r ∈ L) {m : Int} (h : dist L src r.1 = some m) : ∃ m', dist L src r.2.1 = some m' ∧ m' ≤ m + r.2.2 := by
  obtain ⟨F, B⟩ := best_ex (L := L) (src := src) fun r hr => by have := hL r hr; omega
  rw [B.dist_eq hL] at h ⊢
  obtain ⟨b, hb⟩ := at_some h
  obtain ⟨g, hg, e, le⟩ := B.under r hr _ hb rfl
  rw [← e]
  exact ⟨_, at_mem B.nd hg, le⟩
theorem dist_ind (hL : ∀ r ∈ L, 1 ≤ r.2.2) (Q : Str → Int → Prop) (h0 : Q src 0) (hs : ∀ b mb h w, dist L src b = some mb → (b, h, w) ∈ L → Q b mb → Q h (mb + w)) {h : Str} {m : Int} (e : dist L src h = some m) : Q h m := by
  obtain ⟨F, B⟩ := best_ex (L := L) (src := src) fun r hr => by have := hL r hr; omega
  have := B.ind hL Q h0 fun b mb bb h w hb hr q => hs b mb h w (by rw [B.dist_eq hL]; exact at_mem B.nd hb) hr q
  rw [B.dist_eq hL] at e
  obtain ⟨b, hb⟩ := at_some e
  exact this _ hb
theorem dist_nn (hL : ∀ r ∈ L, 1 ≤ r.2.2) {h : Str} {m : Int} (e : dist L src h = some m) : 0 ≤ m :=
  dist_ind hL (fun _ m => 0 ≤ m) (Int.le_refl 0) (fun b mb h w _ hr q => by have := hL _ hr; have this : 1 ≤ w := this; omega) e
/-- a way on from where one has come to -/
theorem dist_on (hL : ∀ r ∈ L, 1 ≤ r.2.2) {a : Str} {m n : Int} {h : Str} (e : dist L src a = some m) (e' : dist L a h = some n) : ∃ o, dist L src h = some o ∧ o ≤ m + n :=
  dist_ind hL (fun h n => ∃ o, dist L src h = some o ∧ o ≤ m + n) ⟨m, e, by omega⟩ (fun b mb h w _ hr ⟨o, h1, h2⟩ => by
    obtain ⟨o', h3, h4⟩ := dist_road hL hr h1
    have h4 : o' ≤ o + w := h4
    exact ⟨o', h3, by omega⟩) e'
/-! the rank of minutes -/
def rank (F : List Fd) (m : Int) : Nat := (F.filter fun g => decide (g.2.1 < m)).length
theorem rank_lt {g : Fd} (hg : g ∈ F) {m : Int} (h : g.2.1 < m) : rank F g.2.1 < rank F m := by
  unfold rank
  exact filter_lt (p := fun f : Fd => decide (f.2.1 < g.2.1)) (q := fun f : Fd => decide (f.2.1 < m)) (fun a h1 => by simp only [decide_eq_true_eq] at h1 ⊢; omega) hg (by simp only [decide_eq_true_eq]; exact h) (by simp only [decide_eq_false_iff_not]; omega)
theorem rank_len {f : Fd} (hf : f ∈ F) : rank F f.2.1 < F.length := by
  have := filter_lt (p := fun g : Fd => decide (g.2.1 < f.2.1)) (q := fun _ => true) (fun _ _ => rfl) hf rfl (by simp)
  unfold rank
  rw [List.filter_eq_self.mpr (fun _ _ => rfl)] at this
  exact this
theorem Best.fl (B : Best L src F) : F.length ≤ L.length + 1 := by
  have h := nodup_len (m := src :: L.map (·.2.1)) B.nd fun x hx => by
    obtain ⟨f, hf, rfl⟩ := List.mem_map.mp hx
    rcases B.tight f hf with ⟨_, h, _⟩ | ⟨mb, w, bb, _, h, _⟩
    · rw [h]
      exact List.mem_cons_self
    · exact List.mem_cons_of_mem _ (List.mem_map.mpr ⟨_, h, rfl⟩)
  rw [List.length_map, List.length_cons, List.length_map] at h
  exact h
/-! turns over all roads -/
abbrev Fn := Str → Option Int
/-- D is no better than least, and exact up to a rank; over the roads so far one rank more -/
structure Bf (L : List Rw) (src : Str) (F : List Fd) (D : Fn) (t i : Nat) : Prop where
  ge : ∀ h m, D h = some m → ∃ f ∈ F, f.1 = h ∧ f.2.1 ≤ m
  ex : ∀ f ∈ F, rank F f.2.1 ≤ t → D f.1 = some f.2.1
  on : ∀ f ∈ F, ∀ mb w bb, (f.2.2, mb, bb) ∈ F → (f.2.2, f.1, w) ∈ L.take i → f.2.1 = mb + w → rank F mb ≤ t → D f.1 = some f.2.1
def relax (D : Fn) (r : Rw) : Fn := match D r.1 with
  | some m => if m + r.2.2 < (D r.2.1).getD (m + r.2.2 + 1) then fun h => if h = r.2.1 then some (m + r.2.2) else D h else D
  | none => D
theorem Bf.step {D : Fn} {t i : Nat} {r : Rw} (B : Best L src F) (I : Bf L src F D t i) (hr : L[i]? = some r) : Bf L src F (relax D r) t (i + 1) := by
  have hm : r ∈ L := List.mem_of_getElem? hr
  have keep : ∀ f ∈ F, D f.1 = some f.2.1 → relax D r f.1 = some f.2.1 := fun f hf h => by
    unfold relax
    cases e : D r.1 with
    | none => exact h
    | some m =>
      show (if m + r.2.2 < (D r.2.1).getD (m + r.2.2 + 1) then fun h => if h = r.2.1 then some (m + r.2.2) else D h else D) f.1 = _
      split
      · rename_i lt
        show (if f.1 = r.2.1 then _ else _) = _
        split
        · rename_i eq
          obtain ⟨g, hg, g1, g2⟩ := I.ge _ _ e
          obtain ⟨g', hg', g3, g4⟩ := B.under r hm g hg g1
          rw [← eq] at g3 lt
          rw [h] at lt
          have := key_uniq B.nd g' hg' f hf g3
          subst this
          have lt : m + r.2.2 < g'.2.1 := lt
          omega
        · exact h
      · exact h
  refine ⟨fun h m e => ?_, fun f hf h => keep f hf (I.ex f hf h), fun f hf mb w bb hb hL e h => ?_⟩
  · unfold relax at e
    cases e' : D r.1 with
    | none =>
      rw [e'] at e
      exact I.ge h m e
    | some k =>
      rw [e'] at e
      have e : (if k + r.2.2 < (D r.2.1).getD (k + r.2.2 + 1) then fun h => if h = r.2.1 then some (k + r.2.2) else D h else D) h = some m := e
      split at e
      · have e : (if h = r.2.1 then some (k + r.2.2) else D h) = some m := e
        split at e
        · rename_i eq
          cases e
          obtain ⟨g, hg, g1, g2⟩ := I.ge _ _ e'
          obtain ⟨g', hg', g3, g4⟩ := B.under r hm g hg g1
          exact ⟨g', hg', by rw [g3, eq], by omega⟩
        · exact I.ge h m e
      · exact I.ge h m e
  · rw [List.take_add_one, hr] at hL
    rcases List.mem_append.mp hL with hL | hL
    · exact keep f hf (I.on f hf mb w bb hb hL e h)
    · have := List.mem_singleton.mp hL
      subst this
      have db := I.ex _ hb h
      have db : D f.2.2 = some mb := db
      unfold relax
      rw [db]
      show (if mb + w < (D f.1).getD (mb + w + 1) then fun h => if h = f.1 then some (mb + w) else D h else D) f.1 = _
      split
      · show (if f.1 = f.1 then _ else _) = _
        rw [if_pos rfl, e]
      · rename_i nlt
        cases q : D f.1 with
        | none =>
          rw [q] at nlt
          have nlt : ¬ mb + w < mb + w + 1 := nlt
          omega
        | some m =>
          rw [q] at nlt
          have nlt : ¬ mb + w < m := nlt
          obtain ⟨g, hg, g1, g2⟩ := I.ge _ _ q
          have := key_uniq B.nd g hg f hf g1
          subst this
          have : m = g.2.1 := by omega
          rw [this]
theorem Bf.turn {D : Fn} {t : Nat} (B : Best L src F) (hL : ∀ r ∈ L, 1 ≤ r.2.2) (I : Bf L src F D t L.length) : Bf L src F D (t + 1) 0 := by
  refine ⟨I.ge, fun f hf h => ?_, fun f hf mb w bb hb hL e h => by rw [List.take_zero] at hL; cases hL⟩
  rcases B.tight f hf with ⟨h1, h2, h3⟩ | ⟨mb, w, bb, h1, h2, h3⟩
  · have := key_uniq B.nd f hf _ B.src h2
    refine I.ex f hf ?_
    have z : rank F f.2.1 = 0 := by
      unfold rank
      rw [List.length_eq_zero_iff, List.filter_eq_nil_iff]
      intro g hg
      simp only [decide_eq_true_eq]
      have := B.ind hL (fun _ m => 0 ≤ m) (Int.le_refl 0) (fun b mb bb h w _ hr q => by have := hL _ hr; have this : 1 ≤ w := this; omega) g hg
      omega
    omega
  · have hw := hL _ h2
    have hw : 1 ≤ w := hw
    have hw2 := hw
    have := rank_lt h1 (m := f.2.1) (by show mb < _; omega)
    have this : rank F mb < rank F f.2.1 := this
    exact I.on f hf mb w bb h1 (by rw [List.take_length]; exact h2) h3 (by omega)
theorem Bf.start (B : Best L src F) (hL : ∀ r ∈ L, 1 ≤ r.2.2) : Bf L src F (fun h => if h = src then some 0 else none) 0 0 := by
  refine ⟨fun h m e => ?_, fun f hf h => ?_, fun f hf mb w bb hb hL e h => by rw [List.take_zero] at hL; cases hL⟩
  · have e : (if h = src then some (0 : Int) else none) = some m := e
    split at e
    · rename_i eq
      cases e
      exact ⟨_, B.src, eq.symm, Int.le_refl 0⟩
    · cases e
  · rcases B.tight f hf with ⟨h1, h2, h3⟩ | ⟨mb, w, bb, h1, h2, h3⟩
    · show (if f.1 = src then _ else _) = _
      rw [if_pos h2, h1]
    · have hw := hL _ h2
      have hw : 1 ≤ w := hw
      have := rank_lt h1 (m := f.2.1) (by show mb < _; omega)
      omega
theorem Bf.done {D : Fn} {t i : Nat} (B : Best L src F) (hL : ∀ r ∈ L, 1 ≤ r.2.2) (I : Bf L src F D t i) (ht : L.length ≤ t) (h : Str) : D h = dist L src h := by
  have full : ∀ f ∈ F, D f.1 = some f.2.1 := fun f hf => I.ex f hf (by have := rank_len hf; have := B.fl; omega)
  rw [B.dist_eq hL]
  cases e : D h with
  | some m =>
    obtain ⟨f, hf, e1, e2⟩ := I.ge h m e
    rw [← e1, full f hf] at e
    rw [← e1, at_mem B.nd hf, e]
  | none =>
    cases e' : at? F h with
    | none => rfl
    | some m =>
      obtain ⟨b, hb⟩ := at_some e'
      have := full _ hb
      rw [show ((h, m, b) : Fd).1 = h from rfl, e] at this
      cases this
end
end Dj

set_option maxRecDepth 100000
set_option maxHeartbeats 4000000
/-! roads and ways, as data -/
namespace Bus
open PySem PySem.Spec PyProof.Rows L2 Fw
open Dj (Best dist)
theorem rides_shp {L : List Ride} (h : ∀ r ∈ L, Ok r.1 ∧ Ok r.2.1) : Shp (.list (L.map rideD)) 2 := shp_map fun r hr => ride_shp (h r hr).1 (h r hr).2
theorem laid_ok {rs : List Ride} {ts : List Trip} (hr : ∀ r ∈ rs, OkR r) (ht : ∀ t ∈ ts, OkT t) : ∀ r ∈ laid rs ts, Ok r.1 ∧ Ok r.2.1 := fun r h => by
  unfold laid at h
  rcases List.mem_append.mp h with h | h
  · exact ⟨(okR_iff.mp (hr r h)).1, (okR_iff.mp (hr r h)).2.1⟩
  · obtain ⟨t, h1, rfl⟩ := List.mem_map.mp h
    have := okT_iff.mp (ht t ((List.mem_filter.mp h1).1))
    exact ⟨this.1, this.2.1⟩
theorem laid_pos {rs : List Ride} {ts : List Trip} (hr : ∀ r ∈ rs, OkR r) (ht : ∀ t ∈ ts, OkT t) : ∀ r ∈ laid rs ts, 1 ≤ r.2.2 := fun r h => by
  unfold laid at h
  rcases List.mem_append.mp h with h | h
  · have := (okR_iff.mp (hr r h)).2.2.2.1
    exact this
  · obtain ⟨t, h1, rfl⟩ := List.mem_map.mp h
    have := okT_iff.mp (ht t (List.mem_filter.mp h1).1)
    show 1 ≤ t.2.2.2 - t.2.1
    omega
/-- what a dict from places tells: at h just what f tells -/
def Tells (kvs : List (Key × PyData)) (f : Str → Option Int) : Prop := ∀ h, lookD kvs (.inr h) = (f h).map PyData.int
/-- a way that takes the least minutes -/
structure WayOk (L : List Ride) (src other : Str) (zs : List Str) : Prop where
  head : zs[0]? = some src
  last : ∃ l, zs = l ++ [other]
  step : ∀ (i : Nat) a b, zs[i]? = some a → zs[i + 1]? = some b → ∃ m w, dist L src a = some m ∧ (a, b, w) ∈ L ∧ dist L src b = some (m + w)
  one : src = other → zs = [src]
  len : zs.length ≤ L.length + 1
/-- the same from behind, under way -/
structure BackOk (L : List Ride) (src other : Str) (F : List Dj.Fd) (bs : List Str) (x : Str) (m : Int) (b : Str) : Prop where
  head : bs[0]? = some other
  last : ∃ l, bs = l ++ [x]
  fd : (x, m, b) ∈ F
  step : ∀ (i : Nat) c d, bs[i]? = some d → bs[i + 1]? = some c → ∃ m w, dist L src c = some m ∧ (c, d, w) ∈ L ∧ dist L src d = some (m + w)
  one : src = other → bs = [other]
  len : bs.length + Dj.rank F m ≤ F.length
section
variable {L : List Ride} {src other : Str} {F : List Dj.Fd} {bs : List Str} {x : Str} {m : Int} {b : Str}
theorem BackOk.start (h : (other, m, b) ∈ F) : BackOk L src other F [other] other m b :=
  ⟨rfl, ⟨[], rfl⟩, h, fun i c d h1 h2 => by simp at h2, fun _ => rfl, by have := Dj.rank_len h; have this : Dj.rank F m < F.length := this; show 1 + _ ≤ _; omega⟩
theorem BackOk.next (B : Best L src F) (hL : ∀ r ∈ L, 1 ≤ r.2.2) (I : BackOk L src other F bs x m b) (hx : x ≠ src) : ∃ m' b', BackOk L src other F (bs ++ [b]) b m' b' ∧ Dj.rank F m' < Dj.rank F m := by
  rcases B.tight _ I.fd with ⟨_, e, _⟩ | ⟨mb, w, bb, h1, h2, h3⟩
  · exact absurd e hx
  have h3 : m = mb + w := h3
  have h2 : (b, x, w) ∈ L := h2
  have h1 : (b, mb, bb) ∈ F := h1
  have hw := hL _ h2
  have hw : 1 ≤ w := hw
  have hlt := Dj.rank_lt h1 (m := m) (by show mb < m; omega)
  have hlt : Dj.rank F mb < Dj.rank F m := hlt
  refine ⟨mb, bb, ⟨?_, ⟨bs, rfl⟩, h1, fun i c d e1 e2 => ?_, fun e => ?_, ?_⟩, hlt⟩
  · obtain ⟨l, e⟩ := I.last
    rw [List.getElem?_append_left (by rw [e, List.length_append]; simp)]
    exact I.head
  · by_cases c2 : i + 1 < bs.length
    · rw [List.getElem?_append_left (by omega)] at e1
      rw [List.getElem?_append_left c2] at e2
      exact I.step i c d e1 e2
    · have hi : i + 1 = bs.length := by
        have := (List.getElem?_eq_some_iff.mp e2).1
        rw [List.length_append, List.length_singleton] at this
        omega
      rw [List.getElem?_append_left (by omega)] at e1
      rw [List.getElem?_append_right (by omega), hi, Nat.sub_self] at e2
      cases e2
      obtain ⟨l, e⟩ := I.last
      have : d = x := by
        rw [e, List.length_append, List.length_singleton] at hi
        rw [e, List.getElem?_append_right (by omega), show i - l.length = 0 by omega] at e1
        cases e1
        rfl
      subst this
      refine ⟨mb, w, ?_, h2, ?_⟩
      · rw [B.dist_eq hL]
        exact Dj.at_mem B.nd h1
      · rw [B.dist_eq hL, ← h3]
        exact Dj.at_mem B.nd I.fd
  · have := I.one e
    obtain ⟨l, e2⟩ := I.last
    rw [this] at e2
    have : x = other := by
      cases l with
      | nil => cases e2; rfl
      | cons a l => cases l <;> cases e2
    exact absurd (this.trans e.symm) hx
  · rw [List.length_append, List.length_singleton]
    have := I.len
    omega
theorem BackOk.done (B : Best L src F) (I : BackOk L src other F bs src m b) : WayOk L src other bs.reverse := by
  obtain ⟨l, e⟩ := I.last
  refine ⟨by rw [e]; simp, ?_, fun i c d e1 e2 => ?_, fun e => ?_, ?_⟩
  · cases bs with
    | nil => have := I.head; simp at this
    | cons a r =>
      have := I.head
      cases this
      exact ⟨r.reverse, by simp⟩
  · have h2 := (List.getElem?_eq_some_iff.mp e2).1
    rw [List.length_reverse] at h2
    rw [List.getElem?_reverse (by omega)] at e1 e2
    obtain ⟨j, hj⟩ : ∃ j, j = bs.length - 1 - (i + 1) := ⟨_, rfl⟩
    rw [← hj] at e2
    rw [show bs.length - 1 - i = j + 1 by omega] at e1
    exact I.step j c d e2 e1
  · rw [I.one e, e]
    rfl
  · rw [List.length_reverse]
    have := I.len
    have := B.fl
    omega
end
/-- each other road between two places of a way takes no less -/
theorem WayOk.least {L : List Ride} {src other : Str} {zs : List Str} (hL : ∀ r ∈ L, 1 ≤ r.2.2) {a b : Str} {m w : Int} (h1 : dist L src a = some m) (h2 : dist L src b = some (m + w)) {w' : Int} (h : (a, b, w') ∈ L) : w ≤ w' := by
  obtain ⟨m', e1, e2⟩ := Dj.dist_road hL h h1
  have e1 : dist L src b = some m' := e1
  have e2 : m' ≤ m + w' := e2
  rw [h2] at e1
  cases e1
  omega
end Bus

set_option maxRecDepth 100000
set_option maxHeartbeats 4000000
namespace K8
open PySem PySem.Spec PyProof.Rows L2 Fw Bus
open Dj (Best dist)
def topS (i : Nat) : Stmt := PySem.Challenge.pw_fewbuses_k08_whole_fewest.main.body.getD i (.Pass ⟨0, 0, 0, 0⟩)
def Bl (mg : Str → Option Value) : Prop := ∀ x ∈ (["all", "isinstance", "str", "len", "bool", "int", "tuple", "enumerate", "list", "range", "max", "min", "dict", "sorted"] : List Str), mg x = none
abbrev s_is_place : Stmt := topS 13
theorem sc_is_place : FnScope ["thing", "sign"] ["thing"] (defScope s_is_place) := ⟨rfl, rfl, rfl, by decide +kernel, rfl, by decide +kernel, by decide +kernel⟩
abbrev N_is_place : List Str := ["thing", "sign"]
theorem nm_is_place {P : Program} {w : World} {K : PySem.W.Frag} {mg : Str → Option Value} {base : Heap} {f : Addr} {cdv : Value} {A : Around} {outer : List PySem.Env} {s : Shared} {H : Hp} {E : XK} {k : Nat} (hb : Bl mg) (hr : Room k (A.deeper (envOfC "is_place" (defScope s_is_place) s.heap.objs.size f cdv))) :
    Nm (cxOf CX0 P w K mg base ["thing", "sign"] "is_place" (defScope s_is_place) f cdv A outer s H E).nox P w K mg base k [some "thing"] ["isinstance", "str", "len", "LONGEST_NAME", "all"] ["all", "isinstance", "str", "len", "bool", "int", "tuple", "enumerate", "list", "range", "max", "min", "dict", "sorted"] ∧ Nd (cxOf CX0 P w K mg base ["thing", "sign"] "is_place" (defScope s_is_place) f cdv A outer s H E).nox [some "thing"] := nm_fn _ _ _ sc_is_place (by decide +kernel) (by decide +kernel) hb hr
abbrev s_is_whole : Stmt := topS 14
theorem sc_is_whole : FnScope ["thing", "least", "most"] ["thing", "least", "most"] (defScope s_is_whole) := ⟨rfl, rfl, rfl, by decide +kernel, rfl, by decide +kernel, by decide +kernel⟩
abbrev N_is_whole : List Str := ["thing", "least", "most"]
theorem nm_is_whole {P : Program} {w : World} {K : PySem.W.Frag} {mg : Str → Option Value} {base : Heap} {f : Addr} {cdv : Value} {A : Around} {outer : List PySem.Env} {s : Shared} {H : Hp} {E : XK} {k : Nat} (hb : Bl mg) (hr : Room k (A.deeper (envOfC "is_whole" (defScope s_is_whole) s.heap.objs.size f cdv))) :
    Nm (cxOf CX0 P w K mg base ["thing", "least", "most"] "is_whole" (defScope s_is_whole) f cdv A outer s H E).nox P w K mg base k [some "thing", some "least", some "most"] ["isinstance", "bool", "int"] ["all", "isinstance", "str", "len", "bool", "int", "tuple", "enumerate", "list", "range", "max", "min", "dict", "sorted"] ∧ Nd (cxOf CX0 P w K mg base ["thing", "least", "most"] "is_whole" (defScope s_is_whole) f cdv A outer s H E).nox [some "thing", some "least", some "most"] := nm_fn _ _ _ sc_is_whole (by decide +kernel) (by decide +kernel) hb hr
abbrev s_is_ride : Stmt := topS 15
theorem sc_is_ride : FnScope ["thing", "start", "goal", "minutes"] ["thing"] (defScope s_is_ride) := ⟨rfl, rfl, rfl, by decide +kernel, rfl, by decide +kernel, by decide +kernel⟩
abbrev N_is_ride : List Str := ["thing", "start", "goal", "minutes"]
theorem nm_is_ride {P : Program} {w : World} {K : PySem.W.Frag} {mg : Str → Option Value} {base : Heap} {f : Addr} {cdv : Value} {A : Around} {outer : List PySem.Env} {s : Shared} {H : Hp} {E : XK} {k : Nat} (hb : Bl mg) (hr : Room k (A.deeper (envOfC "is_ride" (defScope s_is_ride) s.heap.objs.size f cdv))) :
    Nm (cxOf CX0 P w K mg base ["thing", "start", "goal", "minutes"] "is_ride" (defScope s_is_ride) f cdv A outer s H E).nox P w K mg base k [some "thing", some "start", some "goal", some "minutes"] ["isinstance", "tuple", "len", "is_place", "is_whole", "LONGEST_RIDE"] ["all", "isinstance", "str", "len", "bool", "int", "tuple", "enumerate", "list", "range", "max", "min", "dict", "sorted"] ∧ Nd (cxOf CX0 P w K mg base ["thing", "start", "goal", "minutes"] "is_ride" (defScope s_is_ride) f cdv A outer s H E).nox [some "thing", some "start", some "goal", some "minutes"] := nm_fn _ _ _ sc_is_ride (by decide +kernel) (by decide +kernel) hb hr
abbrev s_is_trip : Stmt := topS 16
theorem sc_is_trip : FnScope ["thing", "start", "begin", "goal", "end"] ["thing"] (defScope s_is_trip) := ⟨rfl, rfl, rfl, by decide +kernel, rfl, by decide +kernel, by decide +kernel⟩
abbrev N_is_trip : List Str := ["thing", "start", "begin", "goal", "end"]
theorem nm_is_trip {P : Program} {w : World} {K : PySem.W.Frag} {mg : Str → Option Value} {base : Heap} {f : Addr} {cdv : Value} {A : Around} {outer : List PySem.Env} {s : Shared} {H : Hp} {E : XK} {k : Nat} (hb : Bl mg) (hr : Room k (A.deeper (envOfC "is_trip" (defScope s_is_trip) s.heap.objs.size f cdv))) :
    Nm (cxOf CX0 P w K mg base ["thing", "start", "begin", "goal", "end"] "is_trip" (defScope s_is_trip) f cdv A outer s H E).nox P w K mg base k [some "thing", some "start", some "begin", some "goal", some "end"] ["isinstance", "tuple", "len", "is_place", "is_whole", "LAST_MINUTE"] ["all", "isinstance", "str", "len", "bool", "int", "tuple", "enumerate", "list", "range", "max", "min", "dict", "sorted"] ∧ Nd (cxOf CX0 P w K mg base ["thing", "start", "begin", "goal", "end"] "is_trip" (defScope s_is_trip) f cdv A outer s H E).nox [some "thing", some "start", some "begin", some "goal", some "end"] := nm_fn _ _ _ sc_is_trip (by decide +kernel) (by decide +kernel) hb hr
abbrev s_is_number : Stmt := topS 17
theorem sc_is_number : FnScope ["thing", "trips"] ["thing", "trips"] (defScope s_is_number) := ⟨rfl, rfl, rfl, by decide +kernel, rfl, by decide +kernel, by decide +kernel⟩
abbrev N_is_number : List Str := ["thing", "trips"]
theorem nm_is_number {P : Program} {w : World} {K : PySem.W.Frag} {mg : Str → Option Value} {base : Heap} {f : Addr} {cdv : Value} {A : Around} {outer : List PySem.Env} {s : Shared} {H : Hp} {E : XK} {k : Nat} (hb : Bl mg) (hr : Room k (A.deeper (envOfC "is_number" (defScope s_is_number) s.heap.objs.size f cdv))) :
    Nm (cxOf CX0 P w K mg base ["thing", "trips"] "is_number" (defScope s_is_number) f cdv A outer s H E).nox P w K mg base k [some "thing", some "trips"] ["is_whole", "len"] ["all", "isinstance", "str", "len", "bool", "int", "tuple", "enumerate", "list", "range", "max", "min", "dict", "sorted"] ∧ Nd (cxOf CX0 P w K mg base ["thing", "trips"] "is_number" (defScope s_is_number) f cdv A outer s H E).nox [some "thing", some "trips"] := nm_fn _ _ _ sc_is_number (by decide +kernel) (by decide +kernel) hb hr
abbrev s_look_at_lists : Stmt := topS 18
theorem sc_look_at_lists : FnScope ["rides", "trips", "at", "ride", "trip"] ["rides", "trips"] (defScope s_look_at_lists) := ⟨rfl, rfl, rfl, by decide +kernel, rfl, by decide +kernel, by decide +kernel⟩
abbrev N_look_at_lists : List Str := ["rides", "trips", "at", "ride", "trip"]
theorem nm_look_at_lists {P : Program} {w : World} {K : PySem.W.Frag} {mg : Str → Option Value} {base : Heap} {f : Addr} {cdv : Value} {A : Around} {outer : List PySem.Env} {s : Shared} {H : Hp} {E : XK} {k : Nat} (hb : Bl mg) (hr : Room k (A.deeper (envOfC "look_at_lists" (defScope s_look_at_lists) s.heap.objs.size f cdv))) :
    Nm (cxOf CX0 P w K mg base ["rides", "trips", "at", "ride", "trip"] "look_at_lists" (defScope s_look_at_lists) f cdv A outer s H E).nox P w K mg base k [some "rides", some "trips", some "at", some "ride", some "trip"] ["enumerate", "is_ride", "NoRide", "is_trip", "NoTrip"] ["all", "isinstance", "str", "len", "bool", "int", "tuple", "enumerate", "list", "range", "max", "min", "dict", "sorted"] ∧ Nd (cxOf CX0 P w K mg base ["rides", "trips", "at", "ride", "trip"] "look_at_lists" (defScope s_look_at_lists) f cdv A outer s H E).nox [some "rides", some "trips", some "at", some "ride", some "trip"] := nm_fn _ _ _ sc_look_at_lists (by decide +kernel) (by decide +kernel) hb hr
abbrev s_look_at_place : Stmt := topS 19
theorem sc_look_at_place : FnScope ["thing"] ["thing"] (defScope s_look_at_place) := ⟨rfl, rfl, rfl, by decide +kernel, rfl, by decide +kernel, by decide +kernel⟩
abbrev N_look_at_place : List Str := ["thing"]
theorem nm_look_at_place {P : Program} {w : World} {K : PySem.W.Frag} {mg : Str → Option Value} {base : Heap} {f : Addr} {cdv : Value} {A : Around} {outer : List PySem.Env} {s : Shared} {H : Hp} {E : XK} {k : Nat} (hb : Bl mg) (hr : Room k (A.deeper (envOfC "look_at_place" (defScope s_look_at_place) s.heap.objs.size f cdv))) :
    Nm (cxOf CX0 P w K mg base ["thing"] "look_at_place" (defScope s_look_at_place) f cdv A outer s H E).nox P w K mg base k [some "thing"] ["is_place", "NoPlace"] ["all", "isinstance", "str", "len", "bool", "int", "tuple", "enumerate", "list", "range", "max", "min", "dict", "sorted"] ∧ Nd (cxOf CX0 P w K mg base ["thing"] "look_at_place" (defScope s_look_at_place) f cdv A outer s H E).nox [some "thing"] := nm_fn _ _ _ sc_look_at_place (by decide +kernel) (by decide +kernel) hb hr
abbrev s_look_at_number : Stmt := topS 20
theorem sc_look_at_number : FnScope ["thing", "trips"] ["thing", "trips"] (defScope s_look_at_number) := ⟨rfl, rfl, rfl, by decide +kernel, rfl, by decide +kernel, by decide +kernel⟩
abbrev N_look_at_number : List Str := ["thing", "trips"]
theorem nm_look_at_number {P : Program} {w : World} {K : PySem.W.Frag} {mg : Str → Option Value} {base : Heap} {f : Addr} {cdv : Value} {A : Around} {outer : List PySem.Env} {s : Shared} {H : Hp} {E : XK} {k : Nat} (hb : Bl mg) (hr : Room k (A.deeper (envOfC "look_at_number" (defScope s_look_at_number) s.heap.objs.size f cdv))) :
    Nm (cxOf CX0 P w K mg base ["thing", "trips"] "look_at_number" (defScope s_look_at_number) f cdv A outer s H E).nox P w K mg base k [some "thing", some "trips"] ["is_number", "NoNumber"] ["all", "isinstance", "str", "len", "bool", "int", "tuple", "enumerate", "list", "range", "max", "min", "dict", "sorted"] ∧ Nd (cxOf CX0 P w K mg base ["thing", "trips"] "look_at_number" (defScope s_look_at_number) f cdv A outer s H E).nox [some "thing", some "trips"] := nm_fn _ _ _ sc_look_at_number (by decide +kernel) (by decide +kernel) hb hr
abbrev s_spread : Stmt := topS 22
theorem sc_spread : FnScope ["rides", "trips", "place", "found", "there"] ["rides", "trips", "place"] (defScope s_spread) := ⟨rfl, rfl, rfl, by decide +kernel, rfl, by decide +kernel, by decide +kernel⟩
abbrev N_spread : List Str := ["rides", "trips", "place", "found", "there"]
theorem nm_spread {P : Program} {w : World} {K : PySem.W.Frag} {mg : Str → Option Value} {base : Heap} {f : Addr} {cdv : Value} {A : Around} {outer : List PySem.Env} {s : Shared} {H : Hp} {E : XK} {k : Nat} (hb : Bl mg) (hr : Room k (A.deeper (envOfC "spread" (defScope s_spread) s.heap.objs.size f cdv))) :
    Nm (cxOf CX0 P w K mg base ["rides", "trips", "place", "found", "there"] "spread" (defScope s_spread) f cdv A outer s H E).nox P w K mg base k [some "rides", some "trips", some "place", some "found"] ["look_at_lists", "look_at_place", "explored", "laid_roads"] ["all", "isinstance", "str", "len", "bool", "int", "tuple", "enumerate", "list", "range", "max", "min", "dict", "sorted"] ∧ Nd (cxOf CX0 P w K mg base ["rides", "trips", "place", "found", "there"] "spread" (defScope s_spread) f cdv A outer s H E).nox [some "rides", some "trips", some "place", some "found"] := nm_fn _ _ _ sc_spread (by decide +kernel) (by decide +kernel) hb hr
abbrev s_laid_roads : Stmt := topS 23
theorem sc_laid_roads : FnScope ["rides", "trips", "laid", "start", "begin", "goal", "end"] ["rides", "trips"] (defScope s_laid_roads) := ⟨rfl, rfl, rfl, by decide +kernel, rfl, by decide +kernel, by decide +kernel⟩
abbrev N_laid_roads : List Str := ["rides", "trips", "laid", "start", "begin", "goal", "end"]
theorem nm_laid_roads {P : Program} {w : World} {K : PySem.W.Frag} {mg : Str → Option Value} {base : Heap} {f : Addr} {cdv : Value} {A : Around} {outer : List PySem.Env} {s : Shared} {H : Hp} {E : XK} {k : Nat} (hb : Bl mg) (hr : Room k (A.deeper (envOfC "laid_roads" (defScope s_laid_roads) s.heap.objs.size f cdv))) :
    Nm (cxOf CX0 P w K mg base ["rides", "trips", "laid", "start", "begin", "goal", "end"] "laid_roads" (defScope s_laid_roads) f cdv A outer s H E).nox P w K mg base k [some "rides", some "trips", some "laid", some "start", some "begin", some "goal", some "end"] ["list"] ["all", "isinstance", "str", "len", "bool", "int", "tuple", "enumerate", "list", "range", "max", "min", "dict", "sorted"] ∧ Nd (cxOf CX0 P w K mg base ["rides", "trips", "laid", "start", "begin", "goal", "end"] "laid_roads" (defScope s_laid_roads) f cdv A outer s H E).nox [some "rides", some "trips", some "laid", some "start", some "begin", some "goal", some "end"] := nm_fn _ _ _ sc_laid_roads (by decide +kernel) (by decide +kernel) hb hr
abbrev s_leaving : Stmt := topS 24
theorem sc_leaving : FnScope ["laid", "out", "start", "goal", "minutes"] ["laid"] (defScope s_leaving) := ⟨rfl, rfl, rfl, by decide +kernel, rfl, by decide +kernel, by decide +kernel⟩
abbrev N_leaving : List Str := ["laid", "out", "start", "goal", "minutes"]
theorem nm_leaving {P : Program} {w : World} {K : PySem.W.Frag} {mg : Str → Option Value} {base : Heap} {f : Addr} {cdv : Value} {A : Around} {outer : List PySem.Env} {s : Shared} {H : Hp} {E : XK} {k : Nat} (hb : Bl mg) (hr : Room k (A.deeper (envOfC "leaving" (defScope s_leaving) s.heap.objs.size f cdv))) :
    Nm (cxOf CX0 P w K mg base ["laid", "out", "start", "goal", "minutes"] "leaving" (defScope s_leaving) f cdv A outer s H E).nox P w K mg base k [some "laid", some "out", some "start", some "goal", some "minutes"] [] ["all", "isinstance", "str", "len", "bool", "int", "tuple", "enumerate", "list", "range", "max", "min", "dict", "sorted"] ∧ Nd (cxOf CX0 P w K mg base ["laid", "out", "start", "goal", "minutes"] "leaving" (defScope s_leaving) f cdv A outer s H E).nox [some "laid", some "out", some "start", some "goal", some "minutes"] := nm_fn _ _ _ sc_leaving (by decide +kernel) (by decide +kernel) hb hr
abbrev s_explored : Stmt := topS 25
theorem sc_explored : FnScope ["laid", "place", "out", "found", "waiting", "minutes", "here", "before", "goal", "more"] ["laid", "place"] (defScope s_explored) := ⟨rfl, rfl, rfl, by decide +kernel, rfl, by decide +kernel, by decide +kernel⟩
abbrev N_explored : List Str := ["laid", "place", "out", "found", "waiting", "minutes", "here", "before", "goal", "more"]
theorem nm_explored {P : Program} {w : World} {K : PySem.W.Frag} {mg : Str → Option Value} {base : Heap} {f : Addr} {cdv : Value} {A : Around} {outer : List PySem.Env} {s : Shared} {H : Hp} {E : XK} {k : Nat} (hb : Bl mg) (hr : Room k (A.deeper (envOfC "explored" (defScope s_explored) s.heap.objs.size f cdv))) :
    Nm (cxOf CX0 P w K mg base ["laid", "place", "out", "found", "waiting", "minutes", "here", "before", "goal", "more"] "explored" (defScope s_explored) f cdv A outer s H E).nox P w K mg base k [some "laid", some "place", some "out", some "found", some "waiting", some "minutes", some "here", some "before", some "goal", some "more"] ["leaving", "heappop", "heappush"] ["all", "isinstance", "str", "len", "bool", "int", "tuple", "enumerate", "list", "range", "max", "min", "dict", "sorted"] ∧ Nd (cxOf CX0 P w K mg base ["laid", "place", "out", "found", "waiting", "minutes", "here", "before", "goal", "more"] "explored" (defScope s_explored) f cdv A outer s H E).nox [some "laid", some "place", some "out", some "found", some "waiting", some "minutes", some "here", some "before", some "goal", some "more"] := nm_fn _ _ _ sc_explored (by decide +kernel) (by decide +kernel) hb hr
abbrev s_traced : Stmt := topS 26
theorem sc_traced : FnScope ["found", "one", "other", "back"] ["found", "one", "other"] (defScope s_traced) := ⟨rfl, rfl, rfl, by decide +kernel, rfl, by decide +kernel, by decide +kernel⟩
abbrev N_traced : List Str := ["found", "one", "other", "back"]
theorem nm_traced {P : Program} {w : World} {K : PySem.W.Frag} {mg : Str → Option Value} {base : Heap} {f : Addr} {cdv : Value} {A : Around} {outer : List PySem.Env} {s : Shared} {H : Hp} {E : XK} {k : Nat} (hb : Bl mg) (hr : Room k (A.deeper (envOfC "traced" (defScope s_traced) s.heap.objs.size f cdv))) :
    Nm (cxOf CX0 P w K mg base ["found", "one", "other", "back"] "traced" (defScope s_traced) f cdv A outer s H E).nox P w K mg base k [some "found", some "one", some "other", some "back"] [] ["all", "isinstance", "str", "len", "bool", "int", "tuple", "enumerate", "list", "range", "max", "min", "dict", "sorted"] ∧ Nd (cxOf CX0 P w K mg base ["found", "one", "other", "back"] "traced" (defScope s_traced) f cdv A outer s H E).nox [some "found", some "one", some "other", some "back"] := nm_fn _ _ _ sc_traced (by decide +kernel) (by decide +kernel) hb hr
abbrev s_day : Stmt := topS 28
theorem sc_day : FnScope ["rides", "trips", "row", "number", "laid", "done", "stops", "at", "start", "begin", "goal", "end"] ["rides", "trips", "row"] (defScope s_day) := ⟨rfl, rfl, rfl, by decide +kernel, rfl, by decide +kernel, by decide +kernel⟩
abbrev N_day : List Str := ["rides", "trips", "row", "number", "laid", "done", "stops", "at", "start", "begin", "goal", "end"]
theorem nm_day {P : Program} {w : World} {K : PySem.W.Frag} {mg : Str → Option Value} {base : Heap} {f : Addr} {cdv : Value} {A : Around} {outer : List PySem.Env} {s : Shared} {H : Hp} {E : XK} {k : Nat} (hb : Bl mg) (hr : Room k (A.deeper (envOfC "day" (defScope s_day) s.heap.objs.size f cdv))) :
    Nm (cxOf CX0 P w K mg base ["rides", "trips", "row", "number", "laid", "done", "stops", "at", "start", "begin", "goal", "end"] "day" (defScope s_day) f cdv A outer s H E).nox P w K mg base k [some "rides", some "trips", some "row", some "number", some "laid", some "done", some "stops", some "at", some "start", some "begin", some "goal", some "end"] ["look_at_lists", "look_at_number", "laid_roads", "enumerate", "between"] ["all", "isinstance", "str", "len", "bool", "int", "tuple", "enumerate", "list", "range", "max", "min", "dict", "sorted"] ∧ Nd (cxOf CX0 P w K mg base ["rides", "trips", "row", "number", "laid", "done", "stops", "at", "start", "begin", "goal", "end"] "day" (defScope s_day) f cdv A outer s H E).nox [some "rides", some "trips", some "row", some "number", some "laid", some "done", some "stops", some "at", some "start", some "begin", some "goal", some "end"] := nm_fn _ _ _ sc_day (by decide +kernel) (by decide +kernel) hb hr
theorem nmx_day {P : Program} {w : World} {K : PySem.W.Frag} {mg : Str → Option Value} {base : Heap} {f : Addr} {cdv : Value} {A : Around} {outer : List PySem.Env} {s : Shared} {H : Hp} {E : XK} {k : Nat} (hb : Bl mg) (hr : Room k (A.deeper (envOfC "day" (defScope s_day) s.heap.objs.size f cdv))) :
    Nm (cxOf (L2.CX P w) P w K mg base ["rides", "trips", "row", "number", "laid", "done", "stops", "at", "start", "begin", "goal", "end"] "day" (defScope s_day) f cdv A outer s H E) P w K mg base k [some "rides", some "trips", some "row", some "number", some "laid", some "done", some "stops", some "at", some "start", some "begin", some "goal", some "end"] ["look_at_lists", "look_at_number", "laid_roads", "enumerate", "between"] ["all", "isinstance", "str", "len", "bool", "int", "tuple", "enumerate", "list", "range", "max", "min", "dict", "sorted"] ∧ Nd (cxOf (L2.CX P w) P w K mg base ["rides", "trips", "row", "number", "laid", "done", "stops", "at", "start", "begin", "goal", "end"] "day" (defScope s_day) f cdv A outer s H E) [some "rides", some "trips", some "row", some "number", some "laid", some "done", some "stops", some "at", some "start", some "begin", some "goal", some "end"] := nm_fnX _ _ _ sc_day (by decide +kernel) (by decide +kernel) hb hr
abbrev s_between : Stmt := topS 29
theorem sc_between : FnScope ["laid", "trip", "later", "found", "along", "place"] ["laid", "trip", "later"] (defScope s_between) := ⟨rfl, rfl, rfl, by decide +kernel, rfl, by decide +kernel, by decide +kernel⟩
abbrev N_between : List Str := ["laid", "trip", "later", "found", "along", "place"]
theorem nm_between {P : Program} {w : World} {K : PySem.W.Frag} {mg : Str → Option Value} {base : Heap} {f : Addr} {cdv : Value} {A : Around} {outer : List PySem.Env} {s : Shared} {H : Hp} {E : XK} {k : Nat} (hb : Bl mg) (hr : Room k (A.deeper (envOfC "between" (defScope s_between) s.heap.objs.size f cdv))) :
    Nm (cxOf CX0 P w K mg base ["laid", "trip", "later", "found", "along", "place"] "between" (defScope s_between) f cdv A outer s H E).nox P w K mg base k [some "laid", some "trip", some "later", some "found", some "along"] ["explored", "in_time", "NotInTime", "traced"] ["all", "isinstance", "str", "len", "bool", "int", "tuple", "enumerate", "list", "range", "max", "min", "dict", "sorted"] ∧ Nd (cxOf CX0 P w K mg base ["laid", "trip", "later", "found", "along", "place"] "between" (defScope s_between) f cdv A outer s H E).nox [some "laid", some "trip", some "later", some "found", some "along"] := nm_fn _ _ _ sc_between (by decide +kernel) (by decide +kernel) hb hr
theorem nmx_between {P : Program} {w : World} {K : PySem.W.Frag} {mg : Str → Option Value} {base : Heap} {f : Addr} {cdv : Value} {A : Around} {outer : List PySem.Env} {s : Shared} {H : Hp} {E : XK} {k : Nat} (hb : Bl mg) (hr : Room k (A.deeper (envOfC "between" (defScope s_between) s.heap.objs.size f cdv))) :
    Nm (cxOf (L2.CX P w) P w K mg base ["laid", "trip", "later", "found", "along", "place"] "between" (defScope s_between) f cdv A outer s H E) P w K mg base k [some "laid", some "trip", some "later", some "found", some "along"] ["explored", "in_time", "NotInTime", "traced"] ["all", "isinstance", "str", "len", "bool", "int", "tuple", "enumerate", "list", "range", "max", "min", "dict", "sorted"] ∧ Nd (cxOf (L2.CX P w) P w K mg base ["laid", "trip", "later", "found", "along", "place"] "between" (defScope s_between) f cdv A outer s H E) [some "laid", some "trip", some "later", some "found", some "along"] := nm_fnX _ _ _ sc_between (by decide +kernel) (by decide +kernel) hb hr
abbrev s_in_time : Stmt := topS 30
theorem sc_in_time : FnScope ["found", "trip", "later", "goal"] ["found", "trip", "later"] (defScope s_in_time) := ⟨rfl, rfl, rfl, by decide +kernel, rfl, by decide +kernel, by decide +kernel⟩
abbrev N_in_time : List Str := ["found", "trip", "later", "goal"]
theorem nm_in_time {P : Program} {w : World} {K : PySem.W.Frag} {mg : Str → Option Value} {base : Heap} {f : Addr} {cdv : Value} {A : Around} {outer : List PySem.Env} {s : Shared} {H : Hp} {E : XK} {k : Nat} (hb : Bl mg) (hr : Room k (A.deeper (envOfC "in_time" (defScope s_in_time) s.heap.objs.size f cdv))) :
    Nm (cxOf CX0 P w K mg base ["found", "trip", "later", "goal"] "in_time" (defScope s_in_time) f cdv A outer s H E).nox P w K mg base k [some "found", some "trip", some "later", some "goal"] [] ["all", "isinstance", "str", "len", "bool", "int", "tuple", "enumerate", "list", "range", "max", "min", "dict", "sorted"] ∧ Nd (cxOf CX0 P w K mg base ["found", "trip", "later", "goal"] "in_time" (defScope s_in_time) f cdv A outer s H E).nox [some "found", some "trip", some "later", some "goal"] := nm_fn _ _ _ sc_in_time (by decide +kernel) (by decide +kernel) hb hr
abbrev s_followers : Stmt := topS 31
theorem sc_followers : FnScope ["rides", "trips", "laid", "trip"] ["rides", "trips"] (defScope s_followers) := ⟨rfl, rfl, rfl, by decide +kernel, rfl, by decide +kernel, by decide +kernel⟩
abbrev N_followers : List Str := ["rides", "trips", "laid", "trip"]
theorem nm_followers {P : Program} {w : World} {K : PySem.W.Frag} {mg : Str → Option Value} {base : Heap} {f : Addr} {cdv : Value} {A : Around} {outer : List PySem.Env} {s : Shared} {H : Hp} {E : XK} {k : Nat} (hb : Bl mg) (hr : Room k (A.deeper (envOfC "followers" (defScope s_followers) s.heap.objs.size f cdv))) :
    Nm (cxOf CX0 P w K mg base ["rides", "trips", "laid", "trip"] "followers" (defScope s_followers) f cdv A outer s H E).nox P w K mg base k [some "rides", some "trips", some "laid"] ["laid_roads"] ["all", "isinstance", "str", "len", "bool", "int", "tuple", "enumerate", "list", "range", "max", "min", "dict", "sorted"] ∧ Nd (cxOf CX0 P w K mg base ["rides", "trips", "laid", "trip"] "followers" (defScope s_followers) f cdv A outer s H E).nox [some "rides", some "trips", some "laid"] := nm_fn _ _ _ sc_followers (by decide +kernel) (by decide +kernel) hb hr
abbrev s_following : Stmt := topS 32
theorem sc_following : FnScope ["laid", "trips", "trip", "found", "at", "later"] ["laid", "trips", "trip"] (defScope s_following) := ⟨rfl, rfl, rfl, by decide +kernel, rfl, by decide +kernel, by decide +kernel⟩
abbrev N_following : List Str := ["laid", "trips", "trip", "found", "at", "later"]
theorem nm_following {P : Program} {w : World} {K : PySem.W.Frag} {mg : Str → Option Value} {base : Heap} {f : Addr} {cdv : Value} {A : Around} {outer : List PySem.Env} {s : Shared} {H : Hp} {E : XK} {k : Nat} (hb : Bl mg) (hr : Room k (A.deeper (envOfC "following" (defScope s_following) s.heap.objs.size f cdv))) :
    Nm (cxOf CX0 P w K mg base ["laid", "trips", "trip", "found", "at", "later"] "following" (defScope s_following) f cdv A outer s H E).nox P w K mg base k [some "laid", some "trips", some "trip", some "found"] ["explored", "enumerate"] ["all", "isinstance", "str", "len", "bool", "int", "tuple", "enumerate", "list", "range", "max", "min", "dict", "sorted"] ∧ Nd (cxOf CX0 P w K mg base ["laid", "trips", "trip", "found", "at", "later"] "following" (defScope s_following) f cdv A outer s H E).nox [some "laid", some "trips", some "trip", some "found"] := nm_fn _ _ _ sc_following (by decide +kernel) (by decide +kernel) hb hr
abbrev s_plan : Stmt := topS 34
theorem sc_plan : FnScope ["rides", "trips", "behind", "nexts", "ahead", "rows", "number"] ["rides", "trips"] (defScope s_plan) := ⟨rfl, rfl, rfl, by decide +kernel, rfl, by decide +kernel, by decide +kernel⟩
abbrev N_plan : List Str := ["rides", "trips", "behind", "nexts", "ahead", "rows", "number"]
theorem nm_plan {P : Program} {w : World} {K : PySem.W.Frag} {mg : Str → Option Value} {base : Heap} {f : Addr} {cdv : Value} {A : Around} {outer : List PySem.Env} {s : Shared} {H : Hp} {E : XK} {k : Nat} (hb : Bl mg) (hr : Room k (A.deeper (envOfC "plan" (defScope s_plan) s.heap.objs.size f cdv))) :
    Nm (cxOf CX0 P w K mg base ["rides", "trips", "behind", "nexts", "ahead", "rows", "number"] "plan" (defScope s_plan) f cdv A outer s H E).nox P w K mg base k [some "rides", some "trips", some "behind", some "nexts", some "ahead", some "rows"] ["look_at_lists", "followers", "paired", "range", "len", "standing_apart"] ["all", "isinstance", "str", "len", "bool", "int", "tuple", "enumerate", "list", "range", "max", "min", "dict", "sorted"] ∧ Nd (cxOf CX0 P w K mg base ["rides", "trips", "behind", "nexts", "ahead", "rows", "number"] "plan" (defScope s_plan) f cdv A outer s H E).nox [some "rides", some "trips", some "behind", some "nexts", some "ahead", some "rows"] := nm_fn _ _ _ sc_plan (by decide +kernel) (by decide +kernel) hb hr
abbrev s_paired : Stmt := topS 35
theorem sc_paired : FnScope ["behind", "nexts", "ahead", "number", "found", "free", "other"] ["behind"] (defScope s_paired) := ⟨rfl, rfl, rfl, by decide +kernel, rfl, by decide +kernel, by decide +kernel⟩
abbrev N_paired : List Str := ["behind", "nexts", "ahead", "number", "found", "free", "other"]
theorem nm_paired {P : Program} {w : World} {K : PySem.W.Frag} {mg : Str → Option Value} {base : Heap} {f : Addr} {cdv : Value} {A : Around} {outer : List PySem.Env} {s : Shared} {H : Hp} {E : XK} {k : Nat} (hb : Bl mg) (hr : Room k (A.deeper (envOfC "paired" (defScope s_paired) s.heap.objs.size f cdv))) :
    Nm (cxOf CX0 P w K mg base ["behind", "nexts", "ahead", "number", "found", "free", "other"] "paired" (defScope s_paired) f cdv A outer s H E).nox P w K mg base k [some "behind", some "nexts", some "ahead", some "number", some "found", some "free"] ["range", "len", "meant_for", "pair_anew"] ["all", "isinstance", "str", "len", "bool", "int", "tuple", "enumerate", "list", "range", "max", "min", "dict", "sorted"] ∧ Nd (cxOf CX0 P w K mg base ["behind", "nexts", "ahead", "number", "found", "free", "other"] "paired" (defScope s_paired) f cdv A outer s H E).nox [some "behind", some "nexts", some "ahead", some "number", some "found", some "free"] := nm_fn _ _ _ sc_paired (by decide +kernel) (by decide +kernel) hb hr
abbrev s_meant_for : Stmt := topS 36
theorem sc_meant_for : FnScope ["behind", "ahead", "wanting", "found", "waiting", "one", "other"] ["behind", "ahead", "wanting"] (defScope s_meant_for) := ⟨rfl, rfl, rfl, by decide +kernel, rfl, by decide +kernel, by decide +kernel⟩
abbrev N_meant_for : List Str := ["behind", "ahead", "wanting", "found", "waiting", "one", "other"]
theorem nm_meant_for {P : Program} {w : World} {K : PySem.W.Frag} {mg : Str → Option Value} {base : Heap} {f : Addr} {cdv : Value} {A : Around} {outer : List PySem.Env} {s : Shared} {H : Hp} {E : XK} {k : Nat} (hb : Bl mg) (hr : Room k (A.deeper (envOfC "meant_for" (defScope s_meant_for) s.heap.objs.size f cdv))) :
    Nm (cxOf CX0 P w K mg base ["behind", "ahead", "wanting", "found", "waiting", "one", "other"] "meant_for" (defScope s_meant_for) f cdv A outer s H E).nox P w K mg base k [some "behind", some "ahead", some "wanting", some "found", some "waiting", some "one", some "other"] ["list"] ["all", "isinstance", "str", "len", "bool", "int", "tuple", "enumerate", "list", "range", "max", "min", "dict", "sorted"] ∧ Nd (cxOf CX0 P w K mg base ["behind", "ahead", "wanting", "found", "waiting", "one", "other"] "meant_for" (defScope s_meant_for) f cdv A outer s H E).nox [some "behind", some "ahead", some "wanting", some "found", some "waiting", some "one", some "other"] := nm_fn _ _ _ sc_meant_for (by decide +kernel) (by decide +kernel) hb hr
abbrev s_pair_anew : Stmt := topS 37
theorem sc_pair_anew : FnScope ["nexts", "ahead", "found", "free", "other", "one", "given_up"] ["nexts", "ahead", "found", "free"] (defScope s_pair_anew) := ⟨rfl, rfl, rfl, by decide +kernel, rfl, by decide +kernel, by decide +kernel⟩
abbrev N_pair_anew : List Str := ["nexts", "ahead", "found", "free", "other", "one", "given_up"]
theorem nm_pair_anew {P : Program} {w : World} {K : PySem.W.Frag} {mg : Str → Option Value} {base : Heap} {f : Addr} {cdv : Value} {A : Around} {outer : List PySem.Env} {s : Shared} {H : Hp} {E : XK} {k : Nat} (hb : Bl mg) (hr : Room k (A.deeper (envOfC "pair_anew" (defScope s_pair_anew) s.heap.objs.size f cdv))) :
    Nm (cxOf CX0 P w K mg base ["nexts", "ahead", "found", "free", "other", "one", "given_up"] "pair_anew" (defScope s_pair_anew) f cdv A outer s H E).nox P w K mg base k [some "nexts", some "ahead", some "found", some "free", some "other", some "one", some "given_up"] [] ["all", "isinstance", "str", "len", "bool", "int", "tuple", "enumerate", "list", "range", "max", "min", "dict", "sorted"] ∧ Nd (cxOf CX0 P w K mg base ["nexts", "ahead", "found", "free", "other", "one", "given_up"] "pair_anew" (defScope s_pair_anew) f cdv A outer s H E).nox [some "nexts", some "ahead", some "found", some "free", some "other", some "one", some "given_up"] := nm_fn _ _ _ sc_pair_anew (by decide +kernel) (by decide +kernel) hb hr
abbrev s_row_from : Stmt := topS 38
theorem sc_row_from : FnScope ["number", "nexts", "row"] ["number", "nexts"] (defScope s_row_from) := ⟨rfl, rfl, rfl, by decide +kernel, rfl, by decide +kernel, by decide +kernel⟩
abbrev N_row_from : List Str := ["number", "nexts", "row"]
theorem nm_row_from {P : Program} {w : World} {K : PySem.W.Frag} {mg : Str → Option Value} {base : Heap} {f : Addr} {cdv : Value} {A : Around} {outer : List PySem.Env} {s : Shared} {H : Hp} {E : XK} {k : Nat} (hb : Bl mg) (hr : Room k (A.deeper (envOfC "row_from" (defScope s_row_from) s.heap.objs.size f cdv))) :
    Nm (cxOf CX0 P w K mg base ["number", "nexts", "row"] "row_from" (defScope s_row_from) f cdv A outer s H E).nox P w K mg base k [some "number", some "nexts", some "row"] [] ["all", "isinstance", "str", "len", "bool", "int", "tuple", "enumerate", "list", "range", "max", "min", "dict", "sorted"] ∧ Nd (cxOf CX0 P w K mg base ["number", "nexts", "row"] "row_from" (defScope s_row_from) f cdv A outer s H E).nox [some "number", some "nexts", some "row"] := nm_fn _ _ _ sc_row_from (by decide +kernel) (by decide +kernel) hb hr
abbrev s_standing_apart : Stmt := topS 39
theorem sc_standing_apart : FnScope ["behind", "nexts", "ahead", "numbers", "found", "wanting", "number"] ["behind", "nexts", "ahead"] (defScope s_standing_apart) := ⟨rfl, rfl, rfl, by decide +kernel, rfl, by decide +kernel, by decide +kernel⟩
abbrev N_standing_apart : List Str := ["behind", "nexts", "ahead", "numbers", "found", "wanting", "number"]
theorem nm_standing_apart {P : Program} {w : World} {K : PySem.W.Frag} {mg : Str → Option Value} {base : Heap} {f : Addr} {cdv : Value} {A : Around} {outer : List PySem.Env} {s : Shared} {H : Hp} {E : XK} {k : Nat} (hb : Bl mg) (hr : Room k (A.deeper (envOfC "standing_apart" (defScope s_standing_apart) s.heap.objs.size f cdv))) :
    Nm (cxOf CX0 P w K mg base ["behind", "nexts", "ahead", "numbers", "found", "wanting", "number"] "standing_apart" (defScope s_standing_apart) f cdv A outer s H E).nox P w K mg base k [some "behind", some "nexts", some "ahead", some "numbers", some "found", some "wanting"] ["range", "len", "meant_for"] ["all", "isinstance", "str", "len", "bool", "int", "tuple", "enumerate", "list", "range", "max", "min", "dict", "sorted"] ∧ Nd (cxOf CX0 P w K mg base ["behind", "nexts", "ahead", "numbers", "found", "wanting", "number"] "standing_apart" (defScope s_standing_apart) f cdv A outer s H E).nox [some "behind", some "nexts", some "ahead", some "numbers", some "found", some "wanting"] := nm_fn _ _ _ sc_standing_apart (by decide +kernel) (by decide +kernel) hb hr
abbrev s__law_whole : Stmt := topS 41
theorem sc__law_whole : FnScope ["_law_found"] ["_law_found"] (defScope s__law_whole) := ⟨rfl, rfl, rfl, by decide +kernel, rfl, by decide +kernel, by decide +kernel⟩
abbrev N__law_whole : List Str := ["_law_found"]
theorem nm__law_whole {P : Program} {w : World} {K : PySem.W.Frag} {mg : Str → Option Value} {base : Heap} {f : Addr} {cdv : Value} {A : Around} {outer : List PySem.Env} {s : Shared} {H : Hp} {E : XK} {k : Nat} (hb : Bl mg) (hr : Room k (A.deeper (envOfC "_law_whole" (defScope s__law_whole) s.heap.objs.size f cdv))) :
    Nm (cxOf CX0 P w K mg base ["_law_found"] "_law_whole" (defScope s__law_whole) f cdv A outer s H E).nox P w K mg base k [some "_law_found"] ["isinstance", "int", "bool"] ["all", "isinstance", "str", "len", "bool", "int", "tuple", "enumerate", "list", "range", "max", "min", "dict", "sorted"] ∧ Nd (cxOf CX0 P w K mg base ["_law_found"] "_law_whole" (defScope s__law_whole) f cdv A outer s H E).nox [some "_law_found"] := nm_fn _ _ _ sc__law_whole (by decide +kernel) (by decide +kernel) hb hr
abbrev s__law_cell_at : Stmt := topS 42
theorem sc__law_cell_at : FnScope ["_law_script", "_law_k"] ["_law_script", "_law_k"] (defScope s__law_cell_at) := ⟨rfl, rfl, rfl, by decide +kernel, rfl, by decide +kernel, by decide +kernel⟩
abbrev N__law_cell_at : List Str := ["_law_script", "_law_k"]
theorem nm__law_cell_at {P : Program} {w : World} {K : PySem.W.Frag} {mg : Str → Option Value} {base : Heap} {f : Addr} {cdv : Value} {A : Around} {outer : List PySem.Env} {s : Shared} {H : Hp} {E : XK} {k : Nat} (hb : Bl mg) (hr : Room k (A.deeper (envOfC "_law_cell_at" (defScope s__law_cell_at) s.heap.objs.size f cdv))) :
    Nm (cxOf CX0 P w K mg base ["_law_script", "_law_k"] "_law_cell_at" (defScope s__law_cell_at) f cdv A outer s H E).nox P w K mg base k [some "_law_script", some "_law_k"] ["len"] ["all", "isinstance", "str", "len", "bool", "int", "tuple", "enumerate", "list", "range", "max", "min", "dict", "sorted"] ∧ Nd (cxOf CX0 P w K mg base ["_law_script", "_law_k"] "_law_cell_at" (defScope s__law_cell_at) f cdv A outer s H E).nox [some "_law_script", some "_law_k"] := nm_fn _ _ _ sc__law_cell_at (by decide +kernel) (by decide +kernel) hb hr
abbrev s__law_names : Stmt := topS 43
theorem sc__law_names : FnScope ["_law_cell", "_law_many", "_law_some", "_law_k", "_law_size", "_law_place", "_law_fill", "_law_names_here", "_law_sign"] ["_law_cell", "_law_many"] (defScope s__law_names) := ⟨rfl, rfl, rfl, by decide +kernel, rfl, by decide +kernel, by decide +kernel⟩
abbrev N__law_names : List Str := ["_law_cell", "_law_many", "_law_some", "_law_k", "_law_size", "_law_place", "_law_fill", "_law_names_here", "_law_sign"]
theorem nm__law_names {P : Program} {w : World} {K : PySem.W.Frag} {mg : Str → Option Value} {base : Heap} {f : Addr} {cdv : Value} {A : Around} {outer : List PySem.Env} {s : Shared} {H : Hp} {E : XK} {k : Nat} (hb : Bl mg) (hr : Room k (A.deeper (envOfC "_law_names" (defScope s__law_names) s.heap.objs.size f cdv))) :
    Nm (cxOf CX0 P w K mg base ["_law_cell", "_law_many", "_law_some", "_law_k", "_law_size", "_law_place", "_law_fill", "_law_names_here", "_law_sign"] "_law_names" (defScope s__law_names) f cdv A outer s H E).nox P w K mg base k [some "_law_cell", some "_law_many", some "_law_some", some "_law_k", some "_law_size", some "_law_place", some "_law_fill", some "_law_names_here", some "_law_sign"] ["range"] ["all", "isinstance", "str", "len", "bool", "int", "tuple", "enumerate", "list", "range", "max", "min", "dict", "sorted"] ∧ Nd (cxOf CX0 P w K mg base ["_law_cell", "_law_many", "_law_some", "_law_k", "_law_size", "_law_place", "_law_fill", "_law_names_here", "_law_sign"] "_law_names" (defScope s__law_names) f cdv A outer s H E).nox [some "_law_cell", some "_law_many", some "_law_some", some "_law_k", some "_law_size", some "_law_place", some "_law_fill", some "_law_names_here", some "_law_sign"] := nm_fn _ _ _ sc__law_names (by decide +kernel) (by decide +kernel) hb hr
abbrev s__law_rides : Stmt := topS 44
theorem sc__law_rides : FnScope ["_law_script", "_law_place", "_law_names_here", "_law_size", "_law_rides_here", "_law_k", "_law_cell", "_law_one", "_law_other", "_law_minutes"] ["_law_script", "_law_place", "_law_names_here", "_law_size"] (defScope s__law_rides) := ⟨rfl, rfl, rfl, by decide +kernel, rfl, by decide +kernel, by decide +kernel⟩
abbrev N__law_rides : List Str := ["_law_script", "_law_place", "_law_names_here", "_law_size", "_law_rides_here", "_law_k", "_law_cell", "_law_one", "_law_other", "_law_minutes"]
theorem nm__law_rides {P : Program} {w : World} {K : PySem.W.Frag} {mg : Str → Option Value} {base : Heap} {f : Addr} {cdv : Value} {A : Around} {outer : List PySem.Env} {s : Shared} {H : Hp} {E : XK} {k : Nat} (hb : Bl mg) (hr : Room k (A.deeper (envOfC "_law_rides" (defScope s__law_rides) s.heap.objs.size f cdv))) :
    Nm (cxOf CX0 P w K mg base ["_law_script", "_law_place", "_law_names_here", "_law_size", "_law_rides_here", "_law_k", "_law_cell", "_law_one", "_law_other", "_law_minutes"] "_law_rides" (defScope s__law_rides) f cdv A outer s H E).nox P w K mg base k [some "_law_script", some "_law_place", some "_law_names_here", some "_law_size", some "_law_rides_here", some "_law_k", some "_law_cell", some "_law_one", some "_law_other", some "_law_minutes"] ["range", "_law_cell_at", "len", "max"] ["all", "isinstance", "str", "len", "bool", "int", "tuple", "enumerate", "list", "range", "max", "min", "dict", "sorted"] ∧ Nd (cxOf CX0 P w K mg base ["_law_script", "_law_place", "_law_names_here", "_law_size", "_law_rides_here", "_law_k", "_law_cell", "_law_one", "_law_other", "_law_minutes"] "_law_rides" (defScope s__law_rides) f cdv A outer s H E).nox [some "_law_script", some "_law_place", some "_law_names_here", some "_law_size", some "_law_rides_here", some "_law_k", some "_law_cell", some "_law_one", some "_law_other", some "_law_minutes"] := nm_fn _ _ _ sc__law_rides (by decide +kernel) (by decide +kernel) hb hr
abbrev s__law_trips : Stmt := topS 45
theorem sc__law_trips : FnScope ["_law_script", "_law_place", "_law_names_here", "_law_size", "_law_trips_here", "_law_k", "_law_cell", "_law_one", "_law_other", "_law_begin", "_law_least"] ["_law_script", "_law_place", "_law_names_here", "_law_size"] (defScope s__law_trips) := ⟨rfl, rfl, rfl, by decide +kernel, rfl, by decide +kernel, by decide +kernel⟩
abbrev N__law_trips : List Str := ["_law_script", "_law_place", "_law_names_here", "_law_size", "_law_trips_here", "_law_k", "_law_cell", "_law_one", "_law_other", "_law_begin", "_law_least"]
theorem nm__law_trips {P : Program} {w : World} {K : PySem.W.Frag} {mg : Str → Option Value} {base : Heap} {f : Addr} {cdv : Value} {A : Around} {outer : List PySem.Env} {s : Shared} {H : Hp} {E : XK} {k : Nat} (hb : Bl mg) (hr : Room k (A.deeper (envOfC "_law_trips" (defScope s__law_trips) s.heap.objs.size f cdv))) :
    Nm (cxOf CX0 P w K mg base ["_law_script", "_law_place", "_law_names_here", "_law_size", "_law_trips_here", "_law_k", "_law_cell", "_law_one", "_law_other", "_law_begin", "_law_least"] "_law_trips" (defScope s__law_trips) f cdv A outer s H E).nox P w K mg base k [some "_law_script", some "_law_place", some "_law_names_here", some "_law_size", some "_law_trips_here", some "_law_k", some "_law_cell", some "_law_one", some "_law_other", some "_law_begin", some "_law_least"] ["range", "_law_cell_at", "len"] ["all", "isinstance", "str", "len", "bool", "int", "tuple", "enumerate", "list", "range", "max", "min", "dict", "sorted"] ∧ Nd (cxOf CX0 P w K mg base ["_law_script", "_law_place", "_law_names_here", "_law_size", "_law_trips_here", "_law_k", "_law_cell", "_law_one", "_law_other", "_law_begin", "_law_least"] "_law_trips" (defScope s__law_trips) f cdv A outer s H E).nox [some "_law_script", some "_law_place", some "_law_names_here", some "_law_size", some "_law_trips_here", some "_law_k", some "_law_cell", some "_law_one", some "_law_other", some "_law_begin", some "_law_least"] := nm_fn _ _ _ sc__law_trips (by decide +kernel) (by decide +kernel) hb hr
abbrev s__law_roads : Stmt := topS 46
theorem sc__law_roads : FnScope ["_law_rides_here", "_law_trips_here", "_law_found", "_law_trip"] ["_law_rides_here", "_law_trips_here"] (defScope s__law_roads) := ⟨rfl, rfl, rfl, by decide +kernel, rfl, by decide +kernel, by decide +kernel⟩
abbrev N__law_roads : List Str := ["_law_rides_here", "_law_trips_here", "_law_found", "_law_trip"]
theorem nm__law_roads {P : Program} {w : World} {K : PySem.W.Frag} {mg : Str → Option Value} {base : Heap} {f : Addr} {cdv : Value} {A : Around} {outer : List PySem.Env} {s : Shared} {H : Hp} {E : XK} {k : Nat} (hb : Bl mg) (hr : Room k (A.deeper (envOfC "_law_roads" (defScope s__law_roads) s.heap.objs.size f cdv))) :
    Nm (cxOf CX0 P w K mg base ["_law_rides_here", "_law_trips_here", "_law_found", "_law_trip"] "_law_roads" (defScope s__law_roads) f cdv A outer s H E).nox P w K mg base k [some "_law_rides_here", some "_law_trips_here", some "_law_found", some "_law_trip"] ["list"] ["all", "isinstance", "str", "len", "bool", "int", "tuple", "enumerate", "list", "range", "max", "min", "dict", "sorted"] ∧ Nd (cxOf CX0 P w K mg base ["_law_rides_here", "_law_trips_here", "_law_found", "_law_trip"] "_law_roads" (defScope s__law_roads) f cdv A outer s H E).nox [some "_law_rides_here", some "_law_trips_here", some "_law_found", some "_law_trip"] := nm_fn _ _ _ sc__law_roads (by decide +kernel) (by decide +kernel) hb hr
abbrev s__law_built : Stmt := topS 47
theorem sc__law_built : FnScope ["_law_script", "_law_first", "_law_second", "_law_names_here", "_law_rides_here", "_law_trips_here", "_law_step", "_law_k"] ["_law_script"] (defScope s__law_built) := ⟨rfl, rfl, rfl, by decide +kernel, rfl, by decide +kernel, by decide +kernel⟩
abbrev N__law_built : List Str := ["_law_script", "_law_first", "_law_second", "_law_names_here", "_law_rides_here", "_law_trips_here", "_law_step", "_law_k"]
theorem nm__law_built {P : Program} {w : World} {K : PySem.W.Frag} {mg : Str → Option Value} {base : Heap} {f : Addr} {cdv : Value} {A : Around} {outer : List PySem.Env} {s : Shared} {H : Hp} {E : XK} {k : Nat} (hb : Bl mg) (hr : Room k (A.deeper (envOfC "_law_built" (defScope s__law_built) s.heap.objs.size f cdv))) :
    Nm (cxOf CX0 P w K mg base ["_law_script", "_law_first", "_law_second", "_law_names_here", "_law_rides_here", "_law_trips_here", "_law_step", "_law_k"] "_law_built" (defScope s__law_built) f cdv A outer s H E).nox P w K mg base k [some "_law_script", some "_law_first", some "_law_second", some "_law_names_here", some "_law_rides_here", some "_law_trips_here", some "_law_step"] ["_law_cell_at", "_law_names", "_law_rides", "_law_trips", "range"] ["all", "isinstance", "str", "len", "bool", "int", "tuple", "enumerate", "list", "range", "max", "min", "dict", "sorted"] ∧ Nd (cxOf CX0 P w K mg base ["_law_script", "_law_first", "_law_second", "_law_names_here", "_law_rides_here", "_law_trips_here", "_law_step", "_law_k"] "_law_built" (defScope s__law_built) f cdv A outer s H E).nox [some "_law_script", some "_law_first", some "_law_second", some "_law_names_here", some "_law_rides_here", some "_law_trips_here", some "_law_step"] := nm_fn _ _ _ sc__law_built (by decide +kernel) (by decide +kernel) hb hr
abbrev s__law_walked : Stmt := topS 48
theorem sc__law_walked : FnScope ["_law_told", "_law_trips_here", "_law_row", "_law_stops_here", "_law_at", "_law_k", "_law_trip", "_law_here", "_law_steps", "_law_road"] ["_law_told", "_law_trips_here", "_law_row", "_law_stops_here"] (defScope s__law_walked) := ⟨rfl, rfl, rfl, by decide +kernel, rfl, by decide +kernel, by decide +kernel⟩
abbrev N__law_walked : List Str := ["_law_told", "_law_trips_here", "_law_row", "_law_stops_here", "_law_at", "_law_k", "_law_trip", "_law_here", "_law_steps", "_law_road"]
theorem nm__law_walked {P : Program} {w : World} {K : PySem.W.Frag} {mg : Str → Option Value} {base : Heap} {f : Addr} {cdv : Value} {A : Around} {outer : List PySem.Env} {s : Shared} {H : Hp} {E : XK} {k : Nat} (hb : Bl mg) (hr : Room k (A.deeper (envOfC "_law_walked" (defScope s__law_walked) s.heap.objs.size f cdv))) :
    Nm (cxOf CX0 P w K mg base ["_law_told", "_law_trips_here", "_law_row", "_law_stops_here", "_law_at", "_law_k", "_law_trip", "_law_here", "_law_steps", "_law_road"] "_law_walked" (defScope s__law_walked) f cdv A outer s H E).nox P w K mg base k [some "_law_told", some "_law_trips_here", some "_law_row", some "_law_stops_here", some "_law_at", some "_law_k", some "_law_trip", some "_law_here", some "_law_steps"] ["range", "len", "min"] ["all", "isinstance", "str", "len", "bool", "int", "tuple", "enumerate", "list", "range", "max", "min", "dict", "sorted"] ∧ Nd (cxOf CX0 P w K mg base ["_law_told", "_law_trips_here", "_law_row", "_law_stops_here", "_law_at", "_law_k", "_law_trip", "_law_here", "_law_steps", "_law_road"] "_law_walked" (defScope s__law_walked) f cdv A outer s H E).nox [some "_law_told", some "_law_trips_here", some "_law_row", some "_law_stops_here", some "_law_at", some "_law_k", some "_law_trip", some "_law_here", some "_law_steps"] := nm_fn _ _ _ sc__law_walked (by decide +kernel) (by decide +kernel) hb hr
abbrev s__law_stops : Stmt := topS 49
theorem sc__law_stops : FnScope ["_law_found", "_law_one"] ["_law_found"] (defScope s__law_stops) := ⟨rfl, rfl, rfl, by decide +kernel, rfl, by decide +kernel, by decide +kernel⟩
abbrev N__law_stops : List Str := ["_law_found", "_law_one"]
theorem nm__law_stops {P : Program} {w : World} {K : PySem.W.Frag} {mg : Str → Option Value} {base : Heap} {f : Addr} {cdv : Value} {A : Around} {outer : List PySem.Env} {s : Shared} {H : Hp} {E : XK} {k : Nat} (hb : Bl mg) (hr : Room k (A.deeper (envOfC "_law_stops" (defScope s__law_stops) s.heap.objs.size f cdv))) :
    Nm (cxOf CX0 P w K mg base ["_law_found", "_law_one"] "_law_stops" (defScope s__law_stops) f cdv A outer s H E).nox P w K mg base k [some "_law_found", some "_law_one"] ["isinstance", "list", "tuple", "len", "str", "_law_whole"] ["all", "isinstance", "str", "len", "bool", "int", "tuple", "enumerate", "list", "range", "max", "min", "dict", "sorted"] ∧ Nd (cxOf CX0 P w K mg base ["_law_found", "_law_one"] "_law_stops" (defScope s__law_stops) f cdv A outer s H E).nox [some "_law_found", some "_law_one"] := nm_fn _ _ _ sc__law_stops (by decide +kernel) (by decide +kernel) hb hr
abbrev s__law_far : Stmt := topS 50
theorem sc__law_far : FnScope ["_law_told", "_law_least", "_law_place", "_law_road"] ["_law_told", "_law_least", "_law_place"] (defScope s__law_far) := ⟨rfl, rfl, rfl, by decide +kernel, rfl, by decide +kernel, by decide +kernel⟩
abbrev N__law_far : List Str := ["_law_told", "_law_least", "_law_place", "_law_road"]
theorem nm__law_far {P : Program} {w : World} {K : PySem.W.Frag} {mg : Str → Option Value} {base : Heap} {f : Addr} {cdv : Value} {A : Around} {outer : List PySem.Env} {s : Shared} {H : Hp} {E : XK} {k : Nat} (hb : Bl mg) (hr : Room k (A.deeper (envOfC "_law_far" (defScope s__law_far) s.heap.objs.size f cdv))) :
    Nm (cxOf CX0 P w K mg base ["_law_told", "_law_least", "_law_place", "_law_road"] "_law_far" (defScope s__law_far) f cdv A outer s H E).nox P w K mg base k [some "_law_told", some "_law_least", some "_law_place", some "_law_road"] ["isinstance", "dict"] ["all", "isinstance", "str", "len", "bool", "int", "tuple", "enumerate", "list", "range", "max", "min", "dict", "sorted"] ∧ Nd (cxOf CX0 P w K mg base ["_law_told", "_law_least", "_law_place", "_law_road"] "_law_far" (defScope s__law_far) f cdv A outer s H E).nox [some "_law_told", some "_law_least", some "_law_place", some "_law_road"] := nm_fn _ _ _ sc__law_far (by decide +kernel) (by decide +kernel) hb hr
abbrev s__law_done : Stmt := topS 51
theorem sc__law_done : FnScope ["_law_told", "_law_rides_here", "_law_trips_here", "_law_rows", "_law_done_here", "_law_row", "_law_stops_here"] ["_law_told", "_law_rides_here", "_law_trips_here", "_law_rows"] (defScope s__law_done) := ⟨rfl, rfl, rfl, by decide +kernel, rfl, by decide +kernel, by decide +kernel⟩
abbrev N__law_done : List Str := ["_law_told", "_law_rides_here", "_law_trips_here", "_law_rows", "_law_done_here", "_law_row", "_law_stops_here"]
theorem nm__law_done {P : Program} {w : World} {K : PySem.W.Frag} {mg : Str → Option Value} {base : Heap} {f : Addr} {cdv : Value} {A : Around} {outer : List PySem.Env} {s : Shared} {H : Hp} {E : XK} {k : Nat} (hb : Bl mg) (hr : Room k (A.deeper (envOfC "_law_done" (defScope s__law_done) s.heap.objs.size f cdv))) :
    Nm (cxOf CX0 P w K mg base ["_law_told", "_law_rides_here", "_law_trips_here", "_law_rows", "_law_done_here", "_law_row", "_law_stops_here"] "_law_done" (defScope s__law_done) f cdv A outer s H E).nox P w K mg base k [some "_law_told", some "_law_rides_here", some "_law_trips_here", some "_law_rows", some "_law_done_here", some "_law_row", some "_law_stops_here"] ["day", "list", "_law_stops", "_law_walked", "sorted", "range", "len"] ["all", "isinstance", "str", "len", "bool", "int", "tuple", "enumerate", "list", "range", "max", "min", "dict", "sorted"] ∧ Nd (cxOf CX0 P w K mg base ["_law_told", "_law_rides_here", "_law_trips_here", "_law_rows", "_law_done_here", "_law_row", "_law_stops_here"] "_law_done" (defScope s__law_done) f cdv A outer s H E).nox [some "_law_told", some "_law_rides_here", some "_law_trips_here", some "_law_rows", some "_law_done_here", some "_law_row", some "_law_stops_here"] := nm_fn _ _ _ sc__law_done (by decide +kernel) (by decide +kernel) hb hr
abbrev s__law_apart : Stmt := topS 52
theorem sc__law_apart : FnScope ["_law_told", "_law_rides_here", "_law_trips_here", "_law_apart_here", "_law_one", "_law_least", "_law_other", "_law_trip"] ["_law_told", "_law_rides_here", "_law_trips_here", "_law_apart_here"] (defScope s__law_apart) := ⟨rfl, rfl, rfl, by decide +kernel, rfl, by decide +kernel, by decide +kernel⟩
abbrev N__law_apart : List Str := ["_law_told", "_law_rides_here", "_law_trips_here", "_law_apart_here", "_law_one", "_law_least", "_law_other", "_law_trip"]
theorem nm__law_apart {P : Program} {w : World} {K : PySem.W.Frag} {mg : Str → Option Value} {base : Heap} {f : Addr} {cdv : Value} {A : Around} {outer : List PySem.Env} {s : Shared} {H : Hp} {E : XK} {k : Nat} (hb : Bl mg) (hr : Room k (A.deeper (envOfC "_law_apart" (defScope s__law_apart) s.heap.objs.size f cdv))) :
    Nm (cxOf CX0 P w K mg base ["_law_told", "_law_rides_here", "_law_trips_here", "_law_apart_here", "_law_one", "_law_least", "_law_other", "_law_trip"] "_law_apart" (defScope s__law_apart) f cdv A outer s H E).nox P w K mg base k [some "_law_told", some "_law_rides_here", some "_law_trips_here", some "_law_apart_here", some "_law_one", some "_law_least", some "_law_other", some "_law_trip"] ["spread", "_law_far"] ["all", "isinstance", "str", "len", "bool", "int", "tuple", "enumerate", "list", "range", "max", "min", "dict", "sorted"] ∧ Nd (cxOf CX0 P w K mg base ["_law_told", "_law_rides_here", "_law_trips_here", "_law_apart_here", "_law_one", "_law_least", "_law_other", "_law_trip"] "_law_apart" (defScope s__law_apart) f cdv A outer s H E).nox [some "_law_told", some "_law_rides_here", some "_law_trips_here", some "_law_apart_here", some "_law_one", some "_law_least", some "_law_other", some "_law_trip"] := nm_fn _ _ _ sc__law_apart (by decide +kernel) (by decide +kernel) hb hr
abbrev s_law : Stmt := topS 53
theorem sc_law : FnScope ["_law_script", "_law_names_here", "_law_rides_here", "_law_trips_here", "_law_k", "_law_more", "_law_told", "_law_rows", "_law_apart_here", "_law_numbers", "_law_row", "_law_number"] ["_law_script"] (defScope s_law) := ⟨rfl, rfl, rfl, by decide +kernel, rfl, by decide +kernel, by decide +kernel⟩
abbrev N_law : List Str := ["_law_script", "_law_names_here", "_law_rides_here", "_law_trips_here", "_law_k", "_law_more", "_law_told", "_law_rows", "_law_apart_here", "_law_numbers", "_law_row", "_law_number"]
theorem nm_law {P : Program} {w : World} {K : PySem.W.Frag} {mg : Str → Option Value} {base : Heap} {f : Addr} {cdv : Value} {A : Around} {outer : List PySem.Env} {s : Shared} {H : Hp} {E : XK} {k : Nat} (hb : Bl mg) (hr : Room k (A.deeper (envOfC "law" (defScope s_law) s.heap.objs.size f cdv))) :
    Nm (cxOf CX0 P w K mg base ["_law_script", "_law_names_here", "_law_rides_here", "_law_trips_here", "_law_k", "_law_more", "_law_told", "_law_rows", "_law_apart_here", "_law_numbers", "_law_row", "_law_number"] "law" (defScope s_law) f cdv A outer s H E).nox P w K mg base k [some "_law_script", some "_law_names_here", some "_law_rides_here", some "_law_trips_here", some "_law_k", some "_law_more", some "_law_told", some "_law_rows", some "_law_apart_here", some "_law_numbers", some "_law_row", some "_law_number"] ["_law_built", "_law_cell_at", "range", "_law_trips", "_law_roads", "plan", "list", "_law_whole", "len", "_law_done", "_law_apart"] ["all", "isinstance", "str", "len", "bool", "int", "tuple", "enumerate", "list", "range", "max", "min", "dict", "sorted"] ∧ Nd (cxOf CX0 P w K mg base ["_law_script", "_law_names_here", "_law_rides_here", "_law_trips_here", "_law_k", "_law_more", "_law_told", "_law_rows", "_law_apart_here", "_law_numbers", "_law_row", "_law_number"] "law" (defScope s_law) f cdv A outer s H E).nox [some "_law_script", some "_law_names_here", some "_law_rides_here", some "_law_trips_here", some "_law_k", some "_law_more", some "_law_told", some "_law_rows", some "_law_apart_here", some "_law_numbers", some "_law_row", some "_law_number"] := nm_fn _ _ _ sc_law (by decide +kernel) (by decide +kernel) hb hr
local macro_rules | `(tactic| walk_at "sel") => `(tactic| repeat (first | with_reducible apply Sel.z | apply Sel.s))
local macro_rules | `(tactic| walk_at "upd") => `(tactic| repeat (first | with_reducible apply Upd.z | apply Upd.s))
local macro_rules | `(tactic| walk_at "has") => `(tactic| repeat (first | with_reducible apply Has.z | apply Has.s))
local macro_rules | `(tactic| walk_at "fz") => `(tactic| repeat (first | exact Fz.nil | apply Fz.un | apply Fz.dat | apply Fz.scr | apply Fz.rng | apply Fz.dic | apply Fz.ldc | apply Fz.own | apply Fz.odi | apply Fz.any))
local macro_rules | `(tactic| walk_at "bi") => `(tactic| first | with_reducible exact BI.len | with_reducible exact BI.max | with_reducible exact BI.min | with_reducible exact BI.all | with_reducible exact BI.any | with_reducible exact BI.sorted | with_reducible exact BI.sum | with_reducible exact BI.abs)
local macro_rules | `(tactic| walk_at "bt") => `(tactic| first | with_reducible exact BT.list | with_reducible exact BT.tuple | with_reducible exact BT.str | with_reducible exact BT.int | with_reducible exact BT.bool | with_reducible exact BT.dict)
local macro_rules | `(tactic| walk_at "bd") => `(tactic| first | exact bd_add | exact bd_sub | (apply bd_mod <;> try decide) | (apply bd_fdiv <;> try decide) | apply bd_adds | apply bd_muls | apply bd_mul | apply bd_cat)
local macro_rules | `(tactic| walk_at "cd") => `(tactic| first | exact cd_lt | exact cd_le | exact cd_gt | exact cd_ge | exact cd_eqi | exact cd_nei | exact cd_eqs | exact cd_nes | exact cd_inSign | apply cd_eqD (Nm.hu (by assumption)) | apply cd_neD (Nm.hu (by assumption)) | apply cd_inD (Nm.hu5 (by assumption)) | apply cd_notInD (Nm.hu5 (by assumption)))
local macro_rules | `(tactic| walk_at "id") => `(tactic| first | (apply id_l <;> try first | assumption | rfl) | (apply id_t <;> try first | assumption | rfl) | (apply id_s <;> try first | assumption | (show Str.length _ ≤ sizeLine; decide +kernel)))
local macro_rules | `(tactic| walk_at "cl") => `(tactic| first | exact cl_lenL | exact cl_lenT | apply cl_lenS | exact cl_list | exact cl_max2 (Nm.calm (by assumption)) | exact cl_all (Nm.calm (by assumption)))
local macro_rules | `(tactic| walk_at "x") => `(tactic| first
  | exact xe_int | exact xe_str | exact xe_bl | exact xe_non
  | (apply ve; · assumption
     · walk_at "sel")
  | (apply ve'; · assumption
     · walk_at "sel"
     all_goals (first | rfl | (intro z; cases z; done)))
  | (apply gle_int; · assumption
     · walk_at "has"
     · with_reducible assumption)
  | (apply gle_str; · assumption
     · walk_at "has"
     · with_reducible assumption)
  | (show Nm _ _ _ _ _ _ _ _ _ _; assumption)
  | (apply xe_bin <;> try walk_at "x") | walk_at "bd"
  | (apply xt_cmp <;> try walk_at "x") | (apply xe_cmp <;> try walk_at "x") | walk_at "cd"
  | (show behindInMarks _ _ = false; first | exact nomark _ | rfl)
  | (apply xt_not <;> try walk_at "x") | (apply xe_not <;> try walk_at "x")
  | (apply xe_unop <;> try walk_at "x") | exact ud_neg
  | (apply xt_pw; apply xw_and <;> try walk_at "x") | (apply xt_pw; apply xw_or <;> try walk_at "x")
  | (apply xw_and <;> try walk_at "x") | (apply xw_or <;> try walk_at "x") | (apply xw_and1 <;> try walk_at "x") | (apply xw_or1 <;> try walk_at "x")
  | (apply xe_and <;> try walk_at "x") | (apply xe_or <;> try walk_at "x") | (apply xe_one <;> try walk_at "x")
  | (apply cisi; · assumption
     · walk_at "bt"
     · walk_at "has"
     · walk_at "has"
     · walk_at "has"
     · walk_at "has"
     all_goals try walk_at "x")
  | (apply cbi; · assumption
     · walk_at "bi"
     · walk_at "has"
     · walk_at "has"
     all_goals try walk_at "x")
  | (apply cty; · assumption
     · walk_at "bt"
     · walk_at "has"
     · walk_at "has"
     all_goals walk_at "x")
  | (apply xe_fr (c := .own _)
     (apply cty; · assumption
      · walk_at "bt"
      · walk_at "has"
      · walk_at "has"
      all_goals walk_at "x"))
  | (apply cty; · assumption
     · walk_at "bt"
     · walk_at "has"
     · walk_at "has"
     all_goals try walk_at "x")
  | walk_at "cl"
  | exact xd_nil | (apply xd_cons <;> try walk_at "x") | exact xa_nil | (apply xa_c <;> try walk_at "x")
  | (apply xe_list <;> try walk_at "x") | (apply xe_tup <;> try walk_at "x")
  | (apply xe_ix <;> try walk_at "x") | walk_at "id"
  | (show PlainIx _; exact fun _ _ => rfl)
  | (apply xt_chainI op_le op_le <;> try walk_at "x") | (apply xt_chainI op_le op_lt <;> try walk_at "x") | (apply xe_chainI op_le op_le <;> try walk_at "x") | (apply xe_chainI op_le op_lt <;> try walk_at "x")
  | (apply xt_val <;> try walk_at "x")
  | (apply xe_fr (c := .own _) <;> try walk_at "x")
  | (show List.length _ ≤ 100000; exact Nat.le_of_ble_eq_true rfl)
  | (show lastMarks _ _ = false; with_unfolding_all rfl)
  | (show _ = _; rfl)
  | (intro _; walk_at "x"))
open Bus
structure ASh where
  d : PyData
  h : Short d
abbrev cIsPlace (K : PySem.W.Frag) : Sp := Con K (fun a : ASh => [.dat a.d]) (fun a c => c = .dat (.bool (isPlace a.d)))
abbrev cIsWhole (K : PySem.W.Frag) : Sp := Con K (fun a : PyData × Int × Int => [.dat a.1, .dat (.int a.2.1), .dat (.int a.2.2)]) (fun a c => c = .dat (.bool (isWhole a.1 a.2.1 a.2.2)))
structure ASh1 where
  d : PyData
  h : Short1 d
abbrev cIsRide (K : PySem.W.Frag) : Sp := Con K (fun a : ASh1 => [.dat a.d]) (fun a c => c = .dat (.bool (isRide a.d)))
abbrev cIsTrip (K : PySem.W.Frag) : Sp := Con K (fun a : ASh1 => [.dat a.d]) (fun a c => c = .dat (.bool (isTrip a.d)))
/-- rides and trips that are such -/
structure ABus where
  rs : List Ride
  ts : List Trip
  hr : ∀ r ∈ rs, OkR r
  ht : ∀ t ∈ ts, OkT t
  lr : rs.length ≤ 1000
  lt : ts.length ≤ 1000
abbrev ABus.cells (a : ABus) : List Cell := [.dat (.list (a.rs.map rideD)), .dat (.list (a.ts.map tripD))]
abbrev cLook (K : PySem.W.Frag) : Sp := Con K ABus.cells (fun _ c => c = .dat .none)
abbrev cRoads (K : PySem.W.Frag) : Sp := Con K ABus.cells (fun a c => c = .own ((laid a.rs a.ts).map rideD))
section
variable {P : Program} {w : World} {K : PySem.W.Frag} {mg : Str → Option Value} {base : Heap}
theorem not_t {b : Bool} (h : (!b) = true) : b = false := by cases b; rfl; cases h
theorem not_f {b : Bool} (h : (!b) = false) : b = true := by cases b; cases h; rfl
theorem isT_str {d : PyData} (h : isT d "str" = true) : ∃ z, d = .str z := by
  cases d with
  | str z => exact ⟨z, rfl⟩
  | _ => simp [isT, isTn, tyD] at h
theorem ok_is_place {f : Addr} {fd : FuncData} {k : Nat} (F : Fun K "is_place" "is_place" s_is_place f fd) (hb : Bl mg) {t t' : Tok} (gLN : mg "LONGEST_NAME" = some (.int 12 t)) (gLet : mg "LETTERS" = some (.str letters t')) :
    FnOk P w K mg base CX0 (k + 1) f fd ["thing"] (cIsPlace K) := by
  refine fn_con F sc_is_place (fun _ => rfl) fun cdv A outer s H E hr ⟨d, hd⟩ => ?_
  obtain ⟨nm, nd⟩ := nm_is_place (P := P) (w := w) (K := K) (mg := mg) (base := base) (outer := outer) (H := H) (E := E) hb hr
  show XSs _ [.dat d, .un] _ _
  refine xs_cons (if_ (by walk_at "fz") (by walk_at "x") ?_ ?_)
  · intro hk
    refine xs_cons (x_ret (by walk_at "x") ?_)
    show _ = _
    cases d with
    | str z => simp [isT, isTn, tyD] at hk
    | _ => rfl
  · intro hk
    obtain ⟨z, rfl⟩ := isT_str (d := d) (not_f hk)
    have hz := hd z rfl
    refine xs_nil ?_
    refine xs_cons ?_
    apply if_
    · walk_at "fz"
    · walk_at "x"
      exact Evl.sz_of hz
    · intro hk
      refine xs_cons (x_ret (by walk_at "x") ?_)
      show _ = _
      have e : (decide (1 ≤ (z.length : Int)) && decide ((z.length : Int) ≤ 12)) = false := not_t hk
      simp only [isPlace, e, Bool.false_and]
    · intro hk
      have e : (decide (1 ≤ (z.length : Int)) && decide ((z.length : Int) ≤ 12)) = true := not_f hk
      refine xs_nil ?_
      refine xs_cons (x_ret (c := .dat (.bool (isPlace (.str z)))) ?_ rfl)
      have ee : isPlace (.str z) = (z.cps.toList.map fun c => decide (c ∈ letters.cps.toList)).all id := by simp only [isPlace, e, Bool.true_and]
      rw [ee]
      have hl : (signsD z).length = z.length := by simp [signsD]; rfl
      have sg : ∀ i d, (signsD z)[i]? = some d → ∃ c, z.cps.toList[i]? = some c ∧ d = PyData.str ⟨#[c]⟩ := fun i d hd => by
        unfold signsD at hd
        rw [List.getElem?_map] at hd
        obtain ⟨c, h1, h2⟩ := Option.map_eq_some_iff.mp hd
        exact ⟨c, h1, h2.symm⟩
      refine cbi nm (by walk_at "bi") (by walk_at "has") (by walk_at "has") (xd_cons (xe_fr (c := .own _) ?_) xd_nil) (cl_all nm.calm)
      have e12 : z.length ≤ 12 := by
        simp only [Bool.and_eq_true, decide_eq_true_eq] at e
        omega
      refine (lcg nm (N := ["thing", "sign"]) (sc := defScope s_is_place) (ds := signsD z) rfl rfl 1 (fun i => ((z.cps.toList.take i).map fun c => decide (c ∈ letters.cps.toList)).map PyData.bool) rfl (by rw [hl]; omega) (xi_str (by walk_at "x")) (by decide +kernel) ?_).is ?_
      · intro i d hd
        obtain ⟨c, hc, rfl⟩ := sg i d hd
        refine ⟨true, fun B => xts_nil, fun _ => ⟨.bool (decide (c ∈ letters.cps.toList)), fun B => ?_, ?_⟩, fun h => by cases h⟩
        · refine blk nm ["thing", "sign"] (defScope s_is_place) [none, some "sign"] ["LETTERS"] rfl rfl (by decide +kernel) fun nmb => ?_
          show XE _ [.dat (.str z), .dat (.str ⟨#[c]⟩)] _ _
          walk_at "x"
        · rw [List.take_add_one, hc, List.map_append, List.map_append]
          rfl
      · rw [hl, List.take_of_length_le]
        show z.cps.toList.length ≤ z.cps.size
        simp
theorem ok_is_whole {f : Addr} {fd : FuncData} {k : Nat} (F : Fun K "is_whole" "is_whole" s_is_whole f fd) (hb : Bl mg) : FnOk P w K mg base CX0 (k + 1) f fd ["thing", "least", "most"] (cIsWhole K) := by
  refine fn_con F sc_is_whole (fun _ => rfl) fun cdv A outer s H E hr ⟨d, l, m⟩ => ?_
  obtain ⟨nm, nd⟩ := nm_is_whole (P := P) (w := w) (K := K) (mg := mg) (base := base) (outer := outer) (H := H) (E := E) hb hr
  show XSs _ [.dat d, .dat (.int l), .dat (.int m)] _ _
  refine xs_cons (if_ (by walk_at "fz") (by walk_at "x") ?_ ?_)
  · intro hk
    refine xs_cons (x_ret (by walk_at "x") ?_)
    show _ = _
    cases d with
    | int z => simp [isT, isTn, tyD] at hk
    | _ => rfl
  · intro hk
    obtain ⟨i, rfl⟩ : ∃ i, d = .int i := by
      cases d with
      | int i => exact ⟨i, rfl⟩
      | _ => simp [isT, isTn, tyD] at hk
    refine xs_nil ?_
    refine xs_cons (x_ret (by walk_at "x") ?_)
    rfl
end
section
variable {P : Program} {w : World} {K : PySem.W.Frag} {mg : Str → Option Value} {base : Heap}
theorem isRide_len {ds : List PyData} (h : ds.length ≠ 3) : isRide (.tuple ds) = false := by
  match ds, h with
  | [], _ => rfl
  | [a], _ => cases a <;> rfl
  | [a, b], _ => cases a <;> cases b <;> rfl
  | [a, b, c], h => exact absurd rfl h
  | a :: b :: c :: d :: e, _ => cases a <;> cases b <;> rfl
theorem isRide_place {a b c : PyData} (h : (!isPlace a || !isPlace b) = true) : isRide (.tuple [a, b, c]) = false := by
  cases a <;> cases b <;> first | rfl | skip
  simp only [isRide]
  rename_i x y
  cases e : isPlace (.str x) <;> cases e' : isPlace (.str y) <;> first | rfl | skip
  rw [e, e'] at h
  cases h
theorem isPlace_str {d : PyData} (h : isPlace d = true) : ∃ z, d = .str z := by
  cases d with
  | str z => exact ⟨z, rfl⟩
  | _ => cases h
theorem ok_is_ride {f : Addr} {fd : FuncData} {k : Nat} (F : Fun K "is_ride" "is_ride" s_is_ride f fd) (hb : Bl mg) {t : Tok} (gLR : mg "LONGEST_RIDE" = some (.int 9999 t)) {j : Nat} (hj : j ≤ k) (CP : Cal P w K mg base "is_place" j (cIsPlace K)) (CW : Cal P w K mg base "is_whole" j (cIsWhole K)) :
    FnOk P w K mg base CX0 (k + 1) f fd ["thing"] (cIsRide K) := by
  refine fn_con F sc_is_ride (fun _ => rfl) fun cdv A outer s H E hr ⟨d, hd⟩ => ?_
  obtain ⟨nm, nd⟩ := nm_is_ride (P := P) (w := w) (K := K) (mg := mg) (base := base) (outer := outer) (H := H) (E := E) hb hr
  show XSs _ [.dat d, .un, .un, .un] _ _
  by_cases hT : isT d "tuple" = true
  · obtain ⟨ds, rfl⟩ : ∃ ds, d = .tuple ds := by
      cases d with
      | tuple ds => exact ⟨ds, rfl⟩
      | _ => simp [isT, isTn, tyD] at hT
    refine xs_cons (if_ (by walk_at "fz") (by walk_at "x") ?_ ?_)
    · intro hk
      refine xs_cons (x_ret (by walk_at "x") ?_)
      show _ = _
      have h3 : ds.length ≠ 3 := by
        intro h3
        rw [hT, h3] at hk
        simp at hk
      rw [isRide_len h3]
    · intro hk
      have h3 : ds.length = 3 := by
        rw [hT] at hk
        simp at hk
        omega
      obtain ⟨a, b, c, rfl⟩ : ∃ a b c, ds = [a, b, c] := by
        match ds, h3 with
        | [a, b, c], _ => exact ⟨a, b, c, rfl⟩
      have ha : Short a := hd _ rfl a (by simp)
      have hb' : Short b := hd _ rfl b (by simp)
      refine xs_nil ?_
      refine xs_cons (x_asg (d := .tuple [a, b, c]) (by walk_at "x") (xg_tup nm.calm (xgs_cons (gnm nm nd (by walk_at "upd") (xgs_cons (gnm nm nd (by walk_at "upd") (xgs_cons (gnm nm nd (by walk_at "upd") (xgs_nil ?_))))))))) 
      refine xs_cons (if_ (kk := !isPlace a || !isPlace b) (by walk_at "fz") ?_ ?_ ?_)
      · refine xt_pw (xw_or (xt_not (xt_val (calE nm CP hj (by walk_at "has") ⟨a, ha⟩ ?_))) fun _ => xw_or1 (xt_not (xt_val (calE nm CP hj (by walk_at "has") ⟨b, hb'⟩ ?_))))
        · walk_at "x"
        · walk_at "x"
      · intro hk
        refine xs_cons (x_ret (by walk_at "x") ?_)
        show _ = _
        rw [isRide_place hk]
      · intro hk
        rw [Bool.or_eq_false_iff] at hk
        obtain ⟨x, rfl⟩ := isPlace_str (not_f hk.1)
        obtain ⟨y, rfl⟩ := isPlace_str (not_f hk.2)
        refine xs_nil ?_
        refine xs_cons (x_ret (c := .dat (.bool (!decide (x = y) && isWhole c 1 9999))) (xe_and (by walk_at "x") fun _ => xe_one (calE nm CW hj (by walk_at "has") (c, 1, 9999) (by walk_at "x"))) ?_)
        show _ = _
        simp only [isRide, not_f hk.1, not_f hk.2, Bool.true_and]
  · have hT : isT d "tuple" = false := by
      cases e : isT d "tuple"
      · rfl
      · exact absurd e hT
    refine xs_cons (if_ (kk := true) (by walk_at "fz") (xt_orT (XT.is (a := !isT d "tuple") (by walk_at "x") (by rw [hT]; rfl))) (fun _ => ?_) (fun h => by cases h))
    refine xs_cons (x_ret (by walk_at "x") ?_)
    show _ = _
    cases d with
    | tuple ds => simp [isT, isTn, tyD] at hT
    | _ => rfl
end
end K8

set_option maxRecDepth 100000
set_option maxHeartbeats 4000000
namespace K8
open PySem PySem.Spec PyProof.Rows L2 Fw Bus
open Dj (Best dist)
open Evl (Ex)
local macro_rules | `(tactic| walk_at "sel") => `(tactic| repeat (first | with_reducible apply Sel.z | apply Sel.s))
local macro_rules | `(tactic| walk_at "upd") => `(tactic| repeat (first | with_reducible apply Upd.z | apply Upd.s))
local macro_rules | `(tactic| walk_at "has") => `(tactic| repeat (first | with_reducible apply Has.z | apply Has.s))
local macro_rules | `(tactic| walk_at "fz") => `(tactic| repeat (first | exact Fz.nil | apply Fz.un | apply Fz.dat | apply Fz.scr | apply Fz.rng | apply Fz.dic | apply Fz.ldc | apply Fz.own | apply Fz.odi | apply Fz.any))
local macro_rules | `(tactic| walk_at "bi") => `(tactic| first | with_reducible exact BI.len | with_reducible exact BI.max | with_reducible exact BI.min | with_reducible exact BI.all | with_reducible exact BI.any | with_reducible exact BI.sorted | with_reducible exact BI.sum | with_reducible exact BI.abs)
local macro_rules | `(tactic| walk_at "bt") => `(tactic| first | with_reducible exact BT.list | with_reducible exact BT.tuple | with_reducible exact BT.str | with_reducible exact BT.int | with_reducible exact BT.bool | with_reducible exact BT.dict)
local macro_rules | `(tactic| walk_at "bd") => `(tactic| first | exact bd_add | exact bd_sub | (apply bd_mod <;> try decide) | (apply bd_fdiv <;> try decide) | apply bd_adds | apply bd_muls | apply bd_mul | apply bd_cat)
local macro_rules | `(tactic| walk_at "cd") => `(tactic| first | exact cd_lt | exact cd_le | exact cd_gt | exact cd_ge | exact cd_eqi | exact cd_nei | exact cd_eqs | exact cd_nes | exact cd_inSign | apply cd_eqD (Nm.hu (by assumption)) | apply cd_neD (Nm.hu (by assumption)) | apply cd_inD (Nm.hu5 (by assumption)) | apply cd_notInD (Nm.hu5 (by assumption)))
local macro_rules | `(tactic| walk_at "id") => `(tactic| first | (apply id_l <;> try first | assumption | rfl) | (apply id_t <;> try first | assumption | rfl) | (apply id_s <;> try first | assumption | (show Str.length _ ≤ sizeLine; decide +kernel)))
local macro_rules | `(tactic| walk_at "cl") => `(tactic| first | exact cl_lenL | exact cl_lenT | apply cl_lenS | exact cl_list | exact cl_max2 (Nm.calm (by assumption)) | exact cl_all (Nm.calm (by assumption)))
local macro_rules | `(tactic| walk_at "x") => `(tactic| first
  | exact xe_int | exact xe_str | exact xe_bl | exact xe_non
  | (apply ve; · assumption
     · walk_at "sel")
  | (apply ve'; · assumption
     · walk_at "sel"
     all_goals (first | rfl | (intro z; cases z; done)))
  | (apply gle_int; · assumption
     · walk_at "has"
     · with_reducible assumption)
  | (apply gle_str; · assumption
     · walk_at "has"
     · with_reducible assumption)
  | (show Nm _ _ _ _ _ _ _ _ _ _; assumption)
  | (apply xe_bin <;> try walk_at "x") | walk_at "bd"
  | (apply xt_cmp <;> try walk_at "x") | (apply xe_cmp <;> try walk_at "x") | walk_at "cd"
  | (show behindInMarks _ _ = false; first | exact nomark _ | rfl)
  | (apply xt_not <;> try walk_at "x") | (apply xe_not <;> try walk_at "x")
  | (apply xe_unop <;> try walk_at "x") | exact ud_neg
  | (apply xt_pw; apply xw_and <;> try walk_at "x") | (apply xt_pw; apply xw_or <;> try walk_at "x")
  | (apply xw_and <;> try walk_at "x") | (apply xw_or <;> try walk_at "x") | (apply xw_and1 <;> try walk_at "x") | (apply xw_or1 <;> try walk_at "x")
  | (apply xe_and <;> try walk_at "x") | (apply xe_or <;> try walk_at "x") | (apply xe_one <;> try walk_at "x")
  | (apply cisi; · assumption
     · walk_at "bt"
     · walk_at "has"
     · walk_at "has"
     · walk_at "has"
     · walk_at "has"
     all_goals try walk_at "x")
  | (apply cbi; · assumption
     · walk_at "bi"
     · walk_at "has"
     · walk_at "has"
     all_goals try walk_at "x")
  | (apply cty; · assumption
     · walk_at "bt"
     · walk_at "has"
     · walk_at "has"
     all_goals walk_at "x")
  | (apply xe_fr (c := .own _)
     (apply cty; · assumption
      · walk_at "bt"
      · walk_at "has"
      · walk_at "has"
      all_goals walk_at "x"))
  | (apply cty; · assumption
     · walk_at "bt"
     · walk_at "has"
     · walk_at "has"
     all_goals try walk_at "x")
  | walk_at "cl"
  | exact xd_nil | (apply xd_cons <;> try walk_at "x") | exact xa_nil | (apply xa_c <;> try walk_at "x")
  | (apply xe_list <;> try walk_at "x") | (apply xe_tup <;> try walk_at "x")
  | (apply xe_ix <;> try walk_at "x") | walk_at "id"
  | (show PlainIx _; exact fun _ _ => rfl)
  | (apply xt_chainI op_le op_le <;> try walk_at "x") | (apply xt_chainI op_le op_lt <;> try walk_at "x") | (apply xe_chainI op_le op_le <;> try walk_at "x") | (apply xe_chainI op_le op_lt <;> try walk_at "x")
  | (apply xt_val <;> try walk_at "x")
  | (apply xe_fr (c := .own _) <;> try walk_at "x")
  | (show List.length _ ≤ 100000; exact Nat.le_of_ble_eq_true rfl)
  | (show lastMarks _ _ = false; with_unfolding_all rfl)
  | (show _ = _; rfl)
  | (intro _; walk_at "x"))
/-! leaving: a dict of lists, all one's own -/
abbrev Rw := Str × Str × Int
def roadD (r : Rw) : PyData := .tuple [.str r.1, .str r.2.1, .int r.2.2]
def legD (r : Str × Int) : PyData := .tuple [.str r.1, .int r.2]
def addN : List (Key × List PyData) → Key → PyData → List (Key × List PyData)
  | [], k, d => [(k, [d])]
  | (a, ds) :: r, k, d => if a = k then (a, ds ++ [d]) :: r else (a, ds) :: addN r k d
def outN : List Rw → List (Key × List PyData) → List (Key × List PyData)
  | [], a => a
  | r :: rs, a => outN rs (addN a (.inr r.1) (legD (r.2.1, r.2.2)))
def outD (rs : List Rw) : List (Key × PyData) := (outN rs []).map fun kv => (kv.1, .list kv.2)
theorem outN_app : ∀ (rs qs : List Rw) (a : List (Key × List PyData)), outN (rs ++ qs) a = outN qs (outN rs a)
  | [], _, _ => rfl
  | r :: rs, qs, a => outN_app rs qs _
theorem outN_succ {rs : List Rw} {i : Nat} {r : Rw} (h : rs[i]? = some r) : outN (rs.take (i + 1)) [] = addN (outN (rs.take i) []) (.inr r.1) (legD (r.2.1, r.2.2)) := by
  rw [List.take_add_one, h, outN_app]
  rfl
theorem addN_len : ∀ (kvs : List (Key × List PyData)) (k : Key) (d : PyData), (addN kvs k d).length ≤ kvs.length + 1
  | [], _, _ => Nat.le_refl _
  | (a, ds) :: r, k, d => by
    unfold addN
    split
    · exact Nat.le_succ _
    · rw [List.length_cons, List.length_cons]
      exact Nat.succ_le_succ (addN_len r k d)
theorem papp {α β : Type} {F : α → β → Prop} : ∀ {l l' : List α} {m m' : List β}, Paired F l m → Paired F l' m' → Paired F (l ++ l') (m ++ m')
  | _, _, _, _, .nil, h' => h'
  | _, _, _, _, .cons r t, h' => .cons r (papp t h')
/-- one pair of the dict: its list is one's own -/
def InN (n : Nat) (G0 H0 G H : Hp) (a : Key × V) (b : Key × List PyData) : Prop := a.1 = b.1 ∧ b.2.length ≤ n ∧ ∃ l ts, a.2 = .ref l ∧ H l = some (.lst ts) ∧ G l = none ∧ H0 l = none ∧ DtA G ts b.2
structure Nod (n : Nat) (G0 H0 G H : Hp) (o : Addr) (hs : List (Key × V)) (kvs : List (Key × List PyData)) : Prop where
  dict : H o = some (.dK hs)
  og : G o = none
  oh : H0 o = none
  ps : Paired (InN n G0 H0 G H) hs kvs
  nd : (hs.map (·.2)).Nodup
  ln : kvs.length ≤ n
section
variable {n : Nat} {G0 H0 G H G' H' : Hp} {o : Addr} {hs : List (Key × V)} {kvs : List (Key × List PyData)} {k : Key}
theorem Nod.ext (N : Nod n G0 H0 G H o hs kvs) (x : Ext G H G' H') : Nod n G0 H0 G' H' o hs kvs :=
  ⟨x.eh _ _ N.dict, x.apart N.og N.dict, N.oh, Paired.mapP N.ps fun a b ⟨h1, h2, l, ts, e, h3, h4, h5, h6⟩ => ⟨h1, h2, l, ts, e, x.eh _ _ h3, x.apart h4 h3, h5, dpa_mono x.eg _ _ h6⟩, N.nd, N.ln⟩
theorem Nod.mono {m : Nat} (N : Nod n G0 H0 G H o hs kvs) (h : n ≤ m) : Nod m G0 H0 G H o hs kvs :=
  ⟨N.dict, N.og, N.oh, Paired.mapP N.ps fun a b z => ⟨z.1, Nat.le_trans z.2.1 h, z.2.2⟩, N.nd, Nat.le_trans N.ln h⟩
theorem inN_find : ∀ {hs : List (Key × V)} {kvs : List (Key × List PyData)} {v : V}, Paired (InN n G0 H0 G H) hs kvs → valV hs k = some v → v ∈ hs.map (·.2) ∧ ∃ ds, InN n G0 H0 G H (k, v) (k, ds)
  | _, _, _, .nil, e => by cases e
  | (a, w) :: hs, (b, d) :: kvs, v, .cons h t, e => by
    have hab : a = b := h.1
    subst hab
    unfold valV at e
    rw [List.find?_cons] at e
    by_cases hk : a = k
    · subst hk
      simp only [decide_true] at e
      cases e
      exact ⟨List.mem_cons_self, d, h⟩
    · simp only [hk, decide_false] at e
      obtain ⟨h1, h2⟩ := inN_find t e
      exact ⟨List.mem_cons_of_mem _ h1, h2⟩
theorem inN_other {l : Addr} {u : HO} {m : Nat} (hm : n ≤ m) : ∀ {hs : List (Key × V)} {kvs : List (Key × List PyData)}, Paired (InN n G0 H0 G H) hs kvs → V.ref l ∉ hs.map (·.2) → Paired (InN m G0 H0 G (upd H l u)) hs kvs
  | _, _, .nil, _ => .nil
  | (a, w) :: hs, (b, d) :: kvs, .cons h t, e => by
    obtain ⟨h1, h2, l', ts, e1, h3, h4⟩ := h
    refine .cons ⟨h1, Nat.le_trans h2 hm, l', ts, e1, ?_, h4⟩ (inN_other hm t fun z => e (List.mem_cons_of_mem _ z))
    rw [upd_ne (fun z => e (by rw [List.map_cons, show w = V.ref l' from e1, z]; exact List.mem_cons_self))]
    exact h3
theorem inN_app {l : Addr} {ts : List V} {t : V} {d : PyData} (hl : H l = some (.lst ts)) (r : Dt G t d) : ∀ {hs : List (Key × V)} {kvs : List (Key × List PyData)}, Paired (InN n G0 H0 G H) hs kvs → (hs.map (·.2)).Nodup → valV hs k = some (.ref l) →
    Paired (InN (n + 1) G0 H0 G (upd H l (.lst (ts ++ [t])))) hs (addN kvs k d)
  | _, _, .nil, _, e => by cases e
  | (a, w) :: hs, (b, ds) :: kvs, .cons h tl, nd, e => by
    have hab : a = b := h.1
    subst hab
    rw [List.map_cons, List.nodup_cons] at nd
    unfold valV at e
    rw [List.find?_cons] at e
    unfold addN
    by_cases hk : a = k
    · subst hk
      simp only [decide_true] at e
      have e : w = .ref l := Option.some.inj e
      subst e
      rw [if_pos rfl]
      refine .cons ?_ (inN_other (Nat.le_succ n) tl nd.1)
      obtain ⟨h1, h2, l', ts', e1, h3, h4, h5, h6⟩ := h
      cases e1
      rw [hl] at h3
      cases h3
      exact ⟨rfl, by rw [List.length_append]; exact Nat.add_le_add h2 (Nat.le_refl 1), l, _, rfl, upd_same, h4, h5, dpa_append h6 (dpa_one r)⟩
    · simp only [hk, decide_false] at e
      rw [if_neg hk]
      have mem := (inN_find tl e).1
      obtain ⟨h1, h2, l', ts', e1, h3, h4⟩ := h
      have hne : l' ≠ l := fun z => by
        subst z
        exact nd.1 (by rw [show w = V.ref l' from e1]; exact mem)
      exact .cons ⟨h1, Nat.le_succ_of_le h2, l', ts', e1, by rw [upd_ne hne]; exact h3, h4⟩ (inN_app hl r tl nd.2 e)
theorem addN_len' {d : PyData} (h : kvs.length ≤ n) : (addN kvs k d).length ≤ n + 1 := Nat.le_trans (addN_len kvs k d) (Nat.add_le_add h (Nat.le_refl 1))
/-- the key is there: its list grows -/
theorem Nod.grow (N : Nod n G0 H0 G H o hs kvs) {v t : V} {d : PyData} (hv : valV hs k = some v) : ∃ l ts, v = .ref l ∧ H l = some (.lst ts) ∧ ts.length ≤ n ∧ G l = none ∧ H0 l = none ∧ (Dt G t d → Nod (n + 1) G0 H0 G (upd H l (.lst (ts ++ [t]))) o hs (addN kvs k d)) := by
  obtain ⟨_, ds, h1, h2, l, ts, e1, h3, h4, h5, h6⟩ := inN_find N.ps hv
  have e1 : v = .ref l := e1
  subst e1
  refine ⟨l, ts, rfl, h3, by rw [dpa_len h6]; exact h2, h4, h5, fun r => ⟨?_, N.og, N.oh, inN_app h3 r N.ps N.nd hv, N.nd, addN_len' N.ln⟩⟩
  rw [upd_ne (fun z => by
    subst z
    rw [N.dict] at h3
    cases h3)]
  exact N.dict
theorem inN_none : ∀ {hs : List (Key × V)} {kvs : List (Key × List PyData)}, Paired (InN n G0 H0 G H) hs kvs → valV hs k = none → (hs.any fun kv => decide (kv.1 = k)) = false ∧ ∀ d, addN (kvs ++ [(k, [])]) k d = addN kvs k d
  | _, _, .nil, _ => ⟨rfl, fun d => by show addN [(k, [])] k d = [(k, [d])]; unfold addN; rw [if_pos rfl]; rfl⟩
  | (a, w) :: hs, (b, ds) :: kvs, .cons h t, e => by
    have hab : a = b := h.1
    subst hab
    unfold valV at e
    rw [List.find?_cons] at e
    by_cases hk : a = k
    · subst hk
      simp only [decide_true] at e
      cases e
    · simp only [hk, decide_false] at e
      obtain ⟨h1, h2⟩ := inN_none t e
      refine ⟨by rw [List.any_cons, h1]; simp [hk], fun d => ?_⟩
      show addN ((a, ds) :: (kvs ++ [(k, [])])) k d = addN ((a, ds) :: kvs) k d
      unfold addN
      rw [if_neg hk, if_neg hk, h2 d]
/-- the key is not there: it is put, with a list of one's own -/
theorem Nod.fresh (N : Nod n G0 H0 G H o hs kvs) {q : Addr} (gh : Ex G H) (x0 : Ex H0 H) (hv : valV hs k = none) (hq : H q = none) : Nod (n + 1) G0 H0 G (upd (upd H q (.lst [])) o (.dK (putK hs k (.ref q)))) o (putK hs k (.ref q)) (kvs ++ [(k, [])]) ∧ valV (putK hs k (.ref q)) k = some (.ref q) := by
  obtain ⟨h1, h2⟩ := inN_none N.ps hv
  have ep : putK hs k (.ref q) = hs ++ [(k, .ref q)] := by
    unfold putK
    rw [h1]
    rfl
  have hnq : V.ref q ∉ hs.map (·.2) := fun z => by
    obtain ⟨⟨a, w⟩, hm, e⟩ := List.mem_map.mp z
    have e : w = .ref q := e
    subst e
    obtain ⟨i, hi⟩ := List.mem_iff_getElem?.mp hm
    obtain ⟨b, _, _, _, l, ts, e1, h3, _⟩ := L2.paired_get N.ps hi
    have e1 : V.ref q = .ref l := e1
    cases e1
    rw [hq] at h3
    cases h3
  have hno : V.ref o ∉ hs.map (·.2) := fun z => by
    obtain ⟨⟨a, w⟩, hm, e⟩ := List.mem_map.mp z
    have e : w = .ref o := e
    subst e
    obtain ⟨i, hi⟩ := List.mem_iff_getElem?.mp hm
    obtain ⟨b, _, _, _, l, ts, e1, h3, _⟩ := L2.paired_get N.ps hi
    have e1 : V.ref o = .ref l := e1
    cases e1
    rw [N.dict] at h3
    cases h3
  have qo : q ≠ o := fun z => by
    subst z
    rw [N.dict] at hq
    cases hq
  have gq : G q = none := Evl.fresh_back gh hq
  rw [ep]
  refine ⟨⟨upd_same, N.og, N.oh, papp (inN_other (Nat.le_refl _) (inN_other (Nat.le_succ n) N.ps hnq) hno) (.cons ⟨rfl, Nat.zero_le _, q, [], rfl, by rw [upd_ne qo]; exact upd_same, gq, Evl.fresh_back x0 hq, .nil⟩ .nil), ?_, by rw [List.length_append]; exact Nat.add_le_add N.ln (Nat.le_refl 1)⟩, ?_⟩
  · rw [List.map_append, List.nodup_append]
    refine ⟨N.nd, by simp, fun a ha b hb z => ?_⟩
    rw [List.mem_singleton.mp hb] at z
    subst z
    exact hnq ha
  · unfold valV
    unfold valV at hv
    rw [List.find?_append, Option.map_eq_none_iff.mp hv]
    rw [Option.none_or]
    rw [List.find?_cons]
    simp
end

/-- all lists frozen, the dict one's own -/
theorem Nod.seal {n : Nat} {G0 H0 G H : Hp} {o : Addr} {hs : List (Key × V)} {kvs : List (Key × List PyData)} (N : Nod n G0 H0 G H o hs kvs) (x : Ext G0 H0 G H) : ∃ G', Ext G0 H0 G' H ∧ Ex G G' ∧ G' o = none ∧ KvOk G' hs (kvs.map fun kv => (kv.1, .list kv.2)) := by
  refine ⟨fun a => if V.ref a ∈ hs.map (·.2) then H a else G a, ?_, ?_, ?_, ?_⟩
  · have e : Ex G (fun a => if V.ref a ∈ hs.map (·.2) then H a else G a) := fun a u h => by
      show (if _ then _ else _) = _
      split
      · exact x.gh a u h
      · exact h
    refine ⟨x.eg.trans e, x.eh, fun a u h => ?_, fun a g g' => ?_⟩
    · have h : (if V.ref a ∈ hs.map (·.2) then H a else G a) = some u := h
      split at h
      · exact h
      · exact x.gh a u h
    · have g' : (if V.ref a ∈ hs.map (·.2) then H a else G a) ≠ none := g'
      split at g'
      · rename_i hm
        obtain ⟨⟨b, w⟩, hm, e⟩ := List.mem_map.mp hm
        have e : w = .ref a := e
        subst e
        obtain ⟨i, hi⟩ := List.mem_iff_getElem?.mp hm
        obtain ⟨b, _, _, _, l, ts, e1, h3, h4, h5, _⟩ := L2.paired_get N.ps hi
        have e1 : V.ref a = .ref l := e1
        cases e1
        exact h5
      · exact x.nw a g g'
  · intro a u h
    show (if _ then _ else _) = _
    split
    · exact x.gh a u h
    · exact h
  · show (if _ then _ else _) = _
    split
    · rename_i hm
      obtain ⟨⟨b, w⟩, hm, e⟩ := List.mem_map.mp hm
      have e : w = .ref o := e
      subst e
      obtain ⟨i, hi⟩ := List.mem_iff_getElem?.mp hm
      obtain ⟨b, _, _, _, l, ts, e1, h3, _⟩ := L2.paired_get N.ps hi
      have e1 : V.ref o = .ref l := e1
      cases e1
      rw [N.dict] at h3
      cases h3
    · exact N.og
  · have e : Ex G (fun a => if V.ref a ∈ hs.map (·.2) then H a else G a) := fun a u h => by
      show (if _ then _ else _) = _
      split
      · exact x.gh a u h
      · exact h
    have key : ∀ {l : List (Key × V)} {m : List (Key × List PyData)}, Paired (InN n G0 H0 G H) l m → (∀ a ∈ l, a ∈ hs) → KvOk (fun a => if V.ref a ∈ hs.map (·.2) then H a else G a) l (m.map fun kv => (kv.1, .list kv.2)) := fun {l m} h => by
      induction h with
      | nil => exact fun _ => .nil
      | @cons a b l m h t ih =>
        intro hm
        refine .cons ⟨h.1, ?_⟩ (ih fun a ha => hm a (List.mem_cons_of_mem _ ha))
        obtain ⟨h1, h2, l', ts, e1, h3, h4, h5, h6⟩ := h
        show Dt _ a.2 (.list b.2)
        rw [e1]
        refine .lst (xs := ts) ?_ (dpa_mono e _ _ h6)
        show (if _ then _ else _) = _
        rw [if_pos (by rw [← e1]; exact List.mem_map_of_mem (hm a List.mem_cons_self))]
        exact h3
    exact key N.ps fun a h => h
section
variable {X : Cx} {P : Program} {w : World} {K : PySem.W.Frag} {mg : Str → Option Value} {base : Heap} {k : Nat} {M : List (Option Str)} {GL BL : List Str} {pos : Pos}
theorem pvar (nm : Nm X P w K mg base k M GL BL) {i : Nat} {x : Str} (h : M[i]? = some (some x)) : PE X (.Name x pos) (tVar i) :=
  pe_var (nm.pre i x h) (nm.vis x (List.mem_of_getElem? h)) (nm.dbg x (List.mem_of_getElem? h)).1 (nm.dbg x (List.mem_of_getElem? h)).2
theorem pgn (nm : Nm X P w K mg base k M GL BL) (nd : Nd X M) {i : Nat} {x : Str} (h : M[i]? = some (some x)) : PG X (.Name x pos) (gName i) :=
  pg_name nm.nd (nm.pre i x h) (nd.loc x (List.mem_of_getElem? h)).1 (nd.loc x (List.mem_of_getElem? h)).2
end
structure ALaid where
  rs : List Rw
  ln : rs.length ≤ 40000
abbrev cLeaving (K : PySem.W.Frag) : Sp := Con K (fun a : ALaid => [.dat (.list (a.rs.map roadD))]) (fun a c => c = .odi (outD a.rs))
section
variable {P : Program} {w : World} {K : PySem.W.Frag} {mg : Str → Option Value} {base : Heap}
theorem ok_leaving {f : Addr} {fd : FuncData} {k : Nat} (F : Fun K "leaving" "leaving" s_leaving f fd) (hb : Bl mg) : FnOk P w K mg base CX0 (k + 1) f fd ["laid"] (cLeaving K) := by
  refine fn_con F sc_leaving (fun _ => rfl) fun cdv A outer s H E hr a => ?_
  obtain ⟨nm, nd⟩ := nm_leaving (P := P) (w := w) (K := K) (mg := mg) (base := base) (outer := outer) (H := H) (E := E) hb hr
  show XSs _ [.dat (.list (a.rs.map roadD)), .un, .un, .un, .un] _ _
  refine xs_cons (set nm nd xe_dnew (by walk_at "upd") ?_)
  refine .mk fun {G0 H0 G1 H1 σ} en D r => ?_
  obtain ⟨v0, hv0, d0⟩ := en.ok 0 _ rfl (by intro z; cases z)
  obtain ⟨_, hv1, o, hs0, rfl, o1, o2, o3, o4⟩ := en.ok 1 _ rfl (by intro z; cases z)
  cases o4
  cases d0 with
  | @lst la xs _ hla hxs =>
  refine ⟨_, pss_cons (ps_for nd.own nm.calm (pi_list (pvar nm (i := 0) rfl)) (pg_tup nm.calm (pgs_cons (pgn nm nd (i := 2) rfl) (pgs_cons (pgn nm nd (i := 3) rfl) (pgs_cons (pgn nm nd (i := 4) rfl) pgs_nil))))
    (pss_cons (ps_expr (pe_bm PySem.F.plainAttrs_list PySem.F.slot_list_append PySem.F.type_list_append mt_append (pe_dsetd (pvar nm (i := 1) rfl) (pvar nm (i := 2) rfl) (pe_lst pa_nil) ⟨rfl, rfl, rfl, rfl⟩)
      (pa_cons (pe_tup (pa_cons (pvar nm (i := 3) rfl) (pa_cons (pvar nm (i := 4) rfl) pa_nil))) pa_nil))) pss_nil) (by intro _; rfl)) (pss_cons (ps_ret (pvar nm (i := 1) rfl)) pss_nil), ?_⟩
  refine ⟨_, hv0, la, rfl, ⟨xs, SqL.of (en.gh _ _ hla)⟩, ?_⟩
  have ln : xs.length = a.rs.length := by rw [dpa_len hxs, List.length_map]
  refine for_it walk_list (fun i σ' H' => ∃ G' hs, Ext G0 H0 G' H' ∧ Ex G1 G' ∧ σ'.length = 5 ∧ σ'[1]? = some (some (V.ref o)) ∧ Nod (2 * i) G0 H0 G' H' o hs (outN (a.rs.take i) [])) ⟨G1, [], en.ext, Evl.Ex.refl _, en.len, hv1, ⟨o3, o2, o1, .nil, .nil, Nat.le_refl _⟩⟩
    (fun i σ' H' _ ⟨G', hs, x, e, _⟩ => SqL.of (x.gh _ _ (e _ _ hla))) (fun i y σ' H' H2 hi ⟨G', hs, x, e, l5, h1, N⟩ yy => ?_) (fun σ' H' ⟨G', hs, x, e, l5, h1, N⟩ => ?_)
  · obtain ⟨rfl, hy⟩ := yy
    obtain ⟨d, hd, r⟩ := dpa_getV hxs hy
    rw [List.getElem?_map] at hd
    obtain ⟨⟨st, gl, mi⟩, hr1, rfl⟩ := Option.map_eq_some_iff.mp hd
    have r := dp_mono e _ _ r
    cases r with
    | @tup t ws _ ht hws =>
    cases hws with
    | cons r1 hws =>
    cases hws with
    | cons r2 hws =>
    cases hws with
    | cons r3 hws =>
    cases hws
    cases r1
    cases r2
    cases r3
    refine ⟨t, _, rfl, SqT.of (x.gh _ _ ht), rfl, _, _, rfl, _, _, rfl, _, _, rfl, rfl, ?_⟩
    have hlt : i < a.rs.length := (List.getElem?_eq_some_iff.mp hr1).1
    have bnd := a.ln
    have fin : ∀ {m : Nat} {H3 : Hp} {hs' : List (Key × V)} {kvs' : List (Key × List PyData)} {v : V}, m ≤ 2 * i + 1 → Ext G0 H0 G' H3 → Nod m G0 H0 G' H3 o hs' kvs' → valV hs' (.inr st) = some v → addN kvs' (.inr st) (legD (gl, mi)) = outN (a.rs.take (i + 1)) [] →
        ∃ l ts, v = .ref l ∧ H3 l = some (.lst ts) ∧ ts.length < sizeLine ∧ ∀ p, H3 p = none → ∃ G4 hs4, Ext G0 H0 G4 (upd (upd H3 p (.tup [.str gl, .int mi])) l (.lst (ts ++ [.ref p]))) ∧ Ex G1 G4 ∧ Nod (2 * (i + 1)) G0 H0 G4 (upd (upd H3 p (.tup [.str gl, .int mi])) l (.lst (ts ++ [.ref p]))) o hs4 (outN (a.rs.take (i + 1)) []) := fun {m H3 hs' kvs' v} hm x3 N3 hv ea => by
      obtain ⟨l, ts, e1, h3, hlen, _⟩ := N3.grow (t := .non) (d := .none) hv
      refine ⟨l, ts, e1, h3, Evl.sz_lt (by omega), fun p hp => ?_⟩
      subst e1
      have xp : Ext G' H3 (upd G' p (.tup [.str gl, .int mi])) (upd H3 p (.tup [.str gl, .int mi])) := Ext.new x3.gh hp
      obtain ⟨l', ts', e2, h3', _, g5, g6, N5⟩ := (N3.ext xp).grow (t := .ref p) (d := legD (gl, mi)) hv
      cases e2
      have : ts' = ts := by
        have := xp.eh _ _ h3
        rw [h3'] at this
        cases this
        rfl
      subst this
      refine ⟨_, hs', (x3.trans xp).mut g6 g5, e.trans xp.eg, ?_⟩
      rw [← ea]
      exact (N5 (.tup upd_same (.cons (.str _) (.cons (.int _) .nil)))).mono (by omega)
    have es : outN (a.rs.take (i + 1)) [] = addN (outN (a.rs.take i) []) (.inr st) (legD (gl, mi)) := outN_succ hr1
    have s1 : (((σ'.set 2 (some (V.str st))).set 3 (some (V.str gl))).set 4 (some (V.int mi)))[1]? = some (some (V.ref o)) := by
      rw [List.getElem?_set_ne (by decide), List.getElem?_set_ne (by decide), List.getElem?_set_ne (by decide)]
      exact h1
    have s2 : (((σ'.set 2 (some (V.str st))).set 3 (some (V.str gl))).set 4 (some (V.int mi)))[2]? = some (some (V.str st)) := by
      rw [List.getElem?_set_ne (by decide), List.getElem?_set_ne (by decide), List.getElem?_set_self (by omega)]
    have s3 : (((σ'.set 2 (some (V.str st))).set 3 (some (V.str gl))).set 4 (some (V.int mi)))[3]? = some (some (V.str gl)) := by
      rw [List.getElem?_set_ne (by decide), List.getElem?_set_self (by rw [List.length_set]; omega)]
    have s4 : (((σ'.set 2 (some (V.str st))).set 3 (some (V.str gl))).set 4 (some (V.int mi)))[4]? = some (some (V.int mi)) := by
      rw [List.getElem?_set_self (by rw [List.length_set, List.length_set]; omega)]
    refine ⟨_, s1, o, rfl, .inl ⟨_, .inl N.dict⟩, _, s2, ⟨Nat.zero_le _, fun q hq => ?_⟩⟩
    have xq := Ext.heap x.gh (Evl.Ex.new hq (o := .lst []))
    refine ⟨hs, .inr st, xq.eh _ _ N.dict, rfl, Evl.sz_lt (by have := paired_len N.ps; have := N.ln; omega), fun v hv => ?_, fun hv => ?_⟩
    · obtain ⟨l, ts, rfl, h3, hsz, fin⟩ := fin (by omega) (x.trans xq) (N.ext xq) hv es.symm
      refine ⟨.inl ⟨rfl, _, SqL.of h3⟩, _, s3, _, s4, ⟨Nat.le_of_ble_eq_true rfl, fun p hp => ⟨l, ts, _, rfl, rfl, ?_, hsz, ?_⟩⟩⟩
      · exact Evl.Ex.new hp _ _ h3
      · obtain ⟨G4, hs4, x4, e4, N4⟩ := fin p hp
        exact ⟨G4, hs4, x4, e4, by simp only [List.length_set]; exact l5, s1, N4⟩
    · obtain ⟨Nf, hv'⟩ := N.fresh x.gh x.eh hv hq
      obtain ⟨l, ts, e1, h3, hsz, fin⟩ := fin (by omega) ((x.trans xq).mut N.oh N.og) Nf hv' (by rw [es]; exact (inN_none N.ps hv).2 _)
      cases e1
      refine ⟨.inl ⟨rfl, _, SqL.of h3⟩, _, s3, _, s4, ⟨Nat.le_of_ble_eq_true rfl, fun p hp => ⟨_, ts, _, rfl, rfl, ?_, hsz, ?_⟩⟩⟩
      · exact Evl.Ex.new hp _ _ h3
      · obtain ⟨G4, hs4, x4, e4, N4⟩ := fin p hp
        exact ⟨G4, hs4, x4, e4, by simp only [List.length_set]; exact l5, s1, N4⟩
  · rw [ln, List.take_length] at N
    obtain ⟨G2, x2, e2, g2, kv⟩ := N.seal x
    exact ⟨_, h1, r.rt _ G2 _ (.odi (outD a.rs)) rfl x2 (e.trans e2) ⟨o, hs, rfl, N.oh, g2, N.dict, kv⟩⟩
end
end K8

set_option maxRecDepth 100000
set_option maxHeartbeats 4000000
namespace K8
open PySem PySem.Spec PyProof.Rows L2 Fw Bus
open Dj (Best dist)
open Evl (Ex)
local macro_rules | `(tactic| walk_at "sel") => `(tactic| repeat (first | with_reducible apply Sel.z | apply Sel.s))
local macro_rules | `(tactic| walk_at "upd") => `(tactic| repeat (first | with_reducible apply Upd.z | apply Upd.s))
local macro_rules | `(tactic| walk_at "has") => `(tactic| repeat (first | with_reducible apply Has.z | apply Has.s))
local macro_rules | `(tactic| walk_at "fz") => `(tactic| repeat (first | exact Fz.nil | apply Fz.un | apply Fz.dat | apply Fz.scr | apply Fz.rng | apply Fz.dic | apply Fz.ldc | apply Fz.own | apply Fz.odi | apply Fz.any))
local macro_rules | `(tactic| walk_at "bi") => `(tactic| first | with_reducible exact BI.len | with_reducible exact BI.max | with_reducible exact BI.min | with_reducible exact BI.all | with_reducible exact BI.any | with_reducible exact BI.sorted | with_reducible exact BI.sum | with_reducible exact BI.abs)
local macro_rules | `(tactic| walk_at "bt") => `(tactic| first | with_reducible exact BT.list | with_reducible exact BT.tuple | with_reducible exact BT.str | with_reducible exact BT.int | with_reducible exact BT.bool | with_reducible exact BT.dict)
local macro_rules | `(tactic| walk_at "bd") => `(tactic| first | exact bd_add | exact bd_sub | (apply bd_mod <;> try decide) | (apply bd_fdiv <;> try decide) | apply bd_adds | apply bd_muls | apply bd_mul | apply bd_cat)
local macro_rules | `(tactic| walk_at "cd") => `(tactic| first | exact cd_lt | exact cd_le | exact cd_gt | exact cd_ge | exact cd_eqi | exact cd_nei | exact cd_eqs | exact cd_nes | exact cd_inSign | apply cd_eqD (Nm.hu (by assumption)) | apply cd_neD (Nm.hu (by assumption)) | apply cd_inD (Nm.hu5 (by assumption)) | apply cd_notInD (Nm.hu5 (by assumption)))
local macro_rules | `(tactic| walk_at "id") => `(tactic| first | (apply id_l <;> try first | assumption | rfl) | (apply id_t <;> try first | assumption | rfl) | (apply id_s <;> try first | assumption | (show Str.length _ ≤ sizeLine; decide +kernel)))
local macro_rules | `(tactic| walk_at "cl") => `(tactic| first | exact cl_lenL | exact cl_lenT | apply cl_lenS | exact cl_list | exact cl_max2 (Nm.calm (by assumption)) | exact cl_all (Nm.calm (by assumption)))
local macro_rules | `(tactic| walk_at "x") => `(tactic| first
  | exact xe_int | exact xe_str | exact xe_bl | exact xe_non
  | (apply ve; · assumption
     · walk_at "sel")
  | (apply ve'; · assumption
     · walk_at "sel"
     all_goals (first | rfl | (intro z; cases z; done)))
  | (apply gle_int; · assumption
     · walk_at "has"
     · with_reducible assumption)
  | (apply gle_str; · assumption
     · walk_at "has"
     · with_reducible assumption)
  | (show Nm _ _ _ _ _ _ _ _ _ _; assumption)
  | (apply xe_bin <;> try walk_at "x") | walk_at "bd"
  | (apply xt_cmp <;> try walk_at "x") | (apply xe_cmp <;> try walk_at "x") | walk_at "cd"
  | (show behindInMarks _ _ = false; first | exact nomark _ | rfl)
  | (apply xt_not <;> try walk_at "x") | (apply xe_not <;> try walk_at "x")
  | (apply xe_unop <;> try walk_at "x") | exact ud_neg
  | (apply xt_pw; apply xw_and <;> try walk_at "x") | (apply xt_pw; apply xw_or <;> try walk_at "x")
  | (apply xw_and <;> try walk_at "x") | (apply xw_or <;> try walk_at "x") | (apply xw_and1 <;> try walk_at "x") | (apply xw_or1 <;> try walk_at "x")
  | (apply xe_and <;> try walk_at "x") | (apply xe_or <;> try walk_at "x") | (apply xe_one <;> try walk_at "x")
  | (apply cisi; · assumption
     · walk_at "bt"
     · walk_at "has"
     · walk_at "has"
     · walk_at "has"
     · walk_at "has"
     all_goals try walk_at "x")
  | (apply cbi; · assumption
     · walk_at "bi"
     · walk_at "has"
     · walk_at "has"
     all_goals try walk_at "x")
  | (apply cty; · assumption
     · walk_at "bt"
     · walk_at "has"
     · walk_at "has"
     all_goals walk_at "x")
  | (apply xe_fr (c := .own _)
     (apply cty; · assumption
      · walk_at "bt"
      · walk_at "has"
      · walk_at "has"
      all_goals walk_at "x"))
  | (apply cty; · assumption
     · walk_at "bt"
     · walk_at "has"
     · walk_at "has"
     all_goals try walk_at "x")
  | walk_at "cl"
  | exact xd_nil | (apply xd_cons <;> try walk_at "x") | exact xa_nil | (apply xa_c <;> try walk_at "x")
  | (apply xe_list <;> try walk_at "x") | (apply xe_tup <;> try walk_at "x")
  | (apply xe_ix <;> try walk_at "x") | walk_at "id"
  | (show PlainIx _; exact fun _ _ => rfl)
  | (apply xt_chainI op_le op_le <;> try walk_at "x") | (apply xt_chainI op_le op_lt <;> try walk_at "x") | (apply xe_chainI op_le op_le <;> try walk_at "x") | (apply xe_chainI op_le op_lt <;> try walk_at "x")
  | (apply xt_val <;> try walk_at "x")
  | (apply xe_fr (c := .own _) <;> try walk_at "x")
  | (show List.length _ ≤ 100000; exact Nat.le_of_ble_eq_true rfl)
  | (show lastMarks _ _ = false; with_unfolding_all rfl)
  | (show _ = _; rfl)
  | (intro _; walk_at "x"))
open Dj (legs pushed Best)
/-! explored -/
def getN : List (Key × List PyData) → Key → List PyData
  | [], _ => []
  | (a, ds) :: r, k => if a = k then ds else getN r k
theorem getN_add {d : PyData} {k j : Key} : ∀ {kvs : List (Key × List PyData)}, getN (addN kvs k d) j = if k = j then getN kvs k ++ [d] else getN kvs j
  | [] => by
    unfold addN getN getN
    rfl
  | (a, ds) :: r => by
    unfold addN
    by_cases e : a = k
    · rw [if_pos e]
      subst e
      unfold getN
      by_cases e' : a = j
      · rw [if_pos e', if_pos e', if_pos rfl]
      · simp [e']
    · rw [if_neg e]
      show getN ((a, ds) :: addN r k d) j = _
      unfold getN
      rw [getN_add]
      by_cases e' : a = j
      · subst e'
        rw [if_pos rfl, if_neg (fun z => e z.symm), if_pos rfl]
      · rw [if_neg e', if_neg e, if_neg e']
theorem getN_out {h : Str} : ∀ {rs : List Rw} {a : List (Key × List PyData)}, getN (outN rs a) (.inr h) = getN a (.inr h) ++ (legs rs h).map legD
  | [], a => by simp [outN, legs]
  | r :: rs, a => by
    show getN (outN rs (addN a _ _)) _ = _
    rw [getN_out, getN_add]
    by_cases e : r.1 = h
    · rw [if_pos (by rw [e]), e]
      unfold legs
      rw [List.filter_cons_of_pos (by simp [e]), List.map_cons, List.map_cons, List.append_assoc]
      rfl
    · rw [if_neg (fun z => e (Sum.inr.inj z))]
      unfold legs
      rw [List.filter_cons_of_neg (by simp [e])]
theorem look_list {k : Key} : ∀ {kvs : List (Key × List PyData)}, (lookD (kvs.map fun kv => (kv.1, PyData.list kv.2)) k).getD (.list []) = .list (getN kvs k)
  | [] => rfl
  | (a, ds) :: r => by
    unfold lookD getN
    rw [List.map_cons, List.find?_cons]
    by_cases e : a = k
    · subst e
      simp
    · simp only [e, decide_false, if_false]
      exact look_list (k := k)
theorem look_out {L : List Rw} {h : Str} : (lookD (outD L) (.inr h)).getD (.list []) = .list ((legs L h).map legD) := by
  unfold outD
  rw [look_list, getN_out]
  rfl
def foundD (F : List Dj.Fd) : List (Key × PyData) := F.map fun f => (.inr f.1, .tuple [.int f.2.1, .str f.2.2])
theorem look_found {h : Str} : ∀ {F : List Dj.Fd}, (lookD (foundD F) (.inr h) = none → ∀ g ∈ F, g.1 ≠ h) ∧ ((lookD (foundD F) (.inr h)).isSome = true → ∃ g ∈ F, g.1 = h)
  | [] => ⟨(fun _ g hg => by cases hg), (fun z => by cases z)⟩
  | f :: F => by
    obtain ⟨i1, i2⟩ := look_found (h := h) (F := F)
    unfold lookD foundD
    rw [List.map_cons, List.find?_cons]
    by_cases e : f.1 = h
    · simp only [e, decide_true]
      exact ⟨fun z => (by cases z), fun _ => ⟨f, List.mem_cons_self, e⟩⟩
    · have : ¬ (Sum.inr f.1 : Key) = .inr h := fun z => e (Sum.inr.inj z)
      simp only [this, decide_false]
      refine ⟨fun z g hg => ?_, fun z => ?_⟩
      · rcases List.mem_cons.mp hg with rfl | hg
        · exact e
        · exact i1 z g hg
      · obtain ⟨g, hg, e'⟩ := i2 z
        exact ⟨g, List.mem_cons_of_mem _ hg, e'⟩
structure ARoads where
  L : List Rw
  src : Str
  ln : L.length ≤ 200
  pos : ∀ r ∈ L, 0 ≤ r.2.2
abbrev cExplored (K : PySem.W.Frag) : Sp := Con K (fun a : ARoads => [.dat (.list (a.L.map roadD)), .dat (.str a.src)]) (fun a c => ∃ F, c = .odi (foundD F) ∧ Best a.L a.src F)
section
variable {P : Program} {w : World} {K : PySem.W.Frag} {mg : Str → Option Value} {base : Heap}
theorem ok_explored {f : Addr} {fd : FuncData} {k : Nat} (F : Fun K "explored" "explored" s_explored f fd) (hb : Bl mg) {j : Nat} (hj : j ≤ k) (CL : Cal P w K mg base "leaving" j (cLeaving K))
    (mpop : mg "heappop" = some (.builtin "_heapq.heappop")) (mpush : mg "heappush" = some (.builtin "_heapq.heappush")) : FnOk P w K mg base CX0 (k + 1) f fd ["laid", "place"] (cExplored K) := by
  refine fn_con F sc_explored (fun _ => rfl) fun cdv A outer s H E hr a => ?_
  obtain ⟨nm, nd⟩ := nm_explored (P := P) (w := w) (K := K) (mg := mg) (base := base) (outer := outer) (H := H) (E := E) hb hr
  obtain ⟨L, src, ln, pos⟩ := a
  show XSs _ [.dat (.list (L.map roadD)), .dat (.str src), .un, .un, .un, .un, .un, .un, .un, .un] _ _
  refine xs_cons (set nm nd (c := .odi (outD L)) (calE nm CL hj (by walk_at "has") ⟨L, by omega⟩ (by walk_at "x")) (by walk_at "upd") ?_)
  refine xs_cons (set nm nd xe_dnew (by walk_at "upd") ?_)
  refine xs_cons (set nm nd (c := .own [itemD (0, src, src)]) (by unfold itemD; walk_at "x") (by walk_at "upd") ?_)
  refine xs_cons (while_ nd (fun m c => ∃ F W x y z u v, c = [.dat (.list (L.map roadD)), .dat (.str src), .odi (outD L), .odi (foundD F), .own (W.map itemD), x, y, z, u, v] ∧ Dj.Inv L src F W ∧ HeapI W ∧ m = Dj.mu L F W) _ ⟨[], [(0, src, src)], .un, .un, .un, .un, .un, rfl, Dj.Inv.init, ?_, rfl⟩ ?_)
  · intro i x y hi hx _
    have := (List.getElem?_eq_some_iff.mp hx).1
    rw [List.length_singleton] at this
    omega
  rintro m _ ⟨F, W, x, y, z, u, v, rfl, I, hh, rfl⟩
  refine ⟨!(W.map itemD).isEmpty, _, by walk_at "fz", xt_truthL (by walk_at "x"), fun hne => ?_, fun he => ?_⟩
  · have hne : W ≠ [] := by
      intro z
      subst z
      cases hne
    refine xs_cons (hpop nm (its := W) (by walk_at "sel") hh hne (by walk_at "has") mpop fun t W' hp hh' hmin => ⟨_, by walk_at "upd", ?_⟩)
    obtain ⟨m, h, b⟩ := t
    unfold itemD
    refine xg_tup nm.calm (xgs_cons (gnm nm nd (by walk_at "upd") (xgs_cons (gnm nm nd (by walk_at "upd") (xgs_cons (gnm nm nd (by walk_at "upd") (xgs_nil ?_)))))))
    refine xs_cons (if_ (by walk_at "fz") (xt_dnin nm (kd := .str h) (kvs := foundD F) (by walk_at "x") (xe_ldc (by walk_at "x")) rfl) (fun hk => ?_) (fun hk => ?_))
    · have hn : lookD (foundD F) (.inr h) = none := by
        cases e : lookD (foundD F) (.inr h) with
        | none => rfl
        | some d =>
          rw [e] at hk
          cases hk
      refine xs_cons (dput nm (kvs := foundD F) (kd := .str h) (d := .tuple [.int m, .str b]) (by walk_at "sel") (by walk_at "x") (by walk_at "x") rfl (by walk_at "upd") ?_ ?_)
      · have := I.fl
        unfold foundD
        rw [List.length_map]
        omega
      rw [put_new hn]
      have ef : foundD F ++ [(.inr h, .tuple [.int m, .str b])] = foundD (F ++ [(h, m, b)]) := by
        unfold foundD
        rw [List.map_append]
        rfl
      rw [ef]
      refine xs_cons (for_ nm nd (ds := (legs L h).map legD) (fun i c => ∃ Wj x y, c = [.dat (.list (L.map roadD)), .dat (.str src), .odi (outD L), .odi (foundD (F ++ [(h, m, b)])), .own (Wj.map itemD), .dat (.int m), .dat (.str h), .dat (.str b), x, y] ∧ HeapI Wj ∧ Wj.Perm (W' ++ (pushed L h m).take i))
        (xi_list ((xe_get2Own nm (kvs := outD L) (kd := .str h) (df := .list []) (by walk_at "sel") (by walk_at "x") (by walk_at "x") rfl).is ?_)) ⟨W', _, _, rfl, hh', by rw [List.take_zero, List.append_nil]⟩ ?_ ?_)
      · rw [look_out]
      · rintro i d _ hd ⟨Wj, x, y, rfl, hhj, hpj⟩
        rw [List.getElem?_map] at hd
        obtain ⟨⟨g, w⟩, hg, rfl⟩ := Option.map_eq_some_iff.mp hd
        unfold legD
        refine xg_tup nm.calm (xgs_cons (gnm nm nd (by walk_at "upd") (xgs_cons (gnm nm nd (by walk_at "upd") (xgs_nil ?_)))))
        refine xs_cons (hpush nm (its := Wj) (t := (m + w, g, h)) (by walk_at "sel") (show Fw.XE _ _ _ (.dat (.tuple [.int (m + w), .str g, .str h])) from by walk_at "x") hhj ?_ (by walk_at "has") mpush fun its' hp' hh'' => ⟨_, by walk_at "upd", ?_⟩)
        · have h1 := hpj.length_eq
          have h2 := hp.length_eq
          have h3 := I.wl
          have h4 := Nat.mul_le_mul I.fl ln
          have h5 : F.length * L.length ≤ (L.length + 1) * L.length := Nat.mul_le_mul I.fl (Nat.le_refl _)
          have h6 : (L.length + 1) * L.length ≤ 201 * 200 := Nat.mul_le_mul (by omega) ln
          have h7 := List.length_take_le' i (pushed L h m)
          have h8 : (pushed L h m).length ≤ L.length := by
            unfold pushed
            rw [List.length_map]
            exact Dj.legs_len
          rw [List.length_append] at h1
          rw [List.length_cons] at h2
          omega
        · refine xs_nil ⟨its', _, _, rfl, hh'', ?_⟩
          have hi : (pushed L h m)[i]? = some (m + w, g, h) := by
            unfold pushed
            rw [List.getElem?_map, hg]
            rfl
          rw [List.take_add_one, hi, ← List.append_assoc]
          exact hp'.trans (hpj.append_right _)
      · rintro _ ⟨Wj, x, y, rfl, hhj, hpj⟩
        have hlen : ((legs L h).map legD).length = (pushed L h m).length := by
          unfold pushed
          rw [List.length_map, List.length_map]
        rw [hlen, List.take_length] at hpj
        obtain ⟨I', hle⟩ := I.take pos hp (Dj.min_of hmin) (look_found.1 hn) hpj
        refine xs_nil (xs_nil ⟨_, Dj.mu_take (by rw [List.length_append, List.length_singleton]) I'.fl hle, _, Wj, _, _, _, _, _, rfl, I', hhj, rfl⟩)
    · have hs : (lookD (foundD F) (.inr h)).isSome = true := by
        cases e : (lookD (foundD F) (.inr h)).isSome with
        | true => rfl
        | false =>
          rw [e] at hk
          cases hk
      obtain ⟨I', hle⟩ := I.skip hp (look_found.2 hs)
      refine xs_nil (xs_nil ⟨_, Dj.mu_skip hle, F, W', _, _, _, _, _, rfl, I', hh', rfl⟩)
  · have he : W = [] := by
      cases W with
      | nil => rfl
      | cons _ _ => cases he
    subst he
    refine xs_cons (retN nm (c := .odi (foundD F)) (by walk_at "sel") ⟨F, rfl, I.fin⟩)
end
open Dj (Best dist)
/-- explored's answer, read -/
theorem look_found_at {F : List Dj.Fd} (nd : (F.map (·.1)).Nodup) (h : Str) : (∃ m b, (h, m, b) ∈ F ∧ lookD (foundD F) (.inr h) = some (.tuple [.int m, .str b])) ∨ ((∀ f ∈ F, f.1 ≠ h) ∧ lookD (foundD F) (.inr h) = none) := by
  induction F with
  | nil => exact .inr ⟨(fun _ h => nomatch h), rfl⟩
  | cons f F ih =>
    rw [List.map_cons, List.nodup_cons] at nd
    by_cases e : f.1 = h
    · obtain ⟨f1, m, b⟩ := f
      have e : f1 = h := e
      subst e
      refine .inl ⟨m, b, List.mem_cons_self, ?_⟩
      unfold lookD foundD
      rw [List.map_cons, List.find?_cons]
      simp
    · have ne : ¬ (Sum.inr f.1 : Key) = .inr h := fun z => e (Sum.inr.inj z)
      have st : lookD (foundD (f :: F)) (.inr h) = lookD (foundD F) (.inr h) := by
        unfold lookD foundD
        rw [List.map_cons, List.find?_cons]
        simp only [ne, decide_false]
      rw [st]
      rcases ih nd.2 with ⟨m, b, hg, l⟩ | ⟨h1, l⟩
      · exact .inl ⟨m, b, List.mem_cons_of_mem _ hg, l⟩
      · refine .inr ⟨fun g hg => ?_, l⟩
        rcases List.mem_cons.mp hg with rfl | hg
        · exact e
        · exact h1 g hg
theorem look_found_mem {F : List Dj.Fd} (nd : (F.map (·.1)).Nodup) {h : Str} {m : Int} {b : Str} (hf : (h, m, b) ∈ F) : lookD (foundD F) (.inr h) = some (.tuple [.int m, .str b]) := by
  rcases look_found_at nd h with ⟨m', b', hg, l⟩ | ⟨h1, _⟩
  · have := Dj.key_uniq nd _ hg _ hf rfl
    cases this
    exact l
  · exact absurd rfl (h1 _ hf)
end K8

set_option maxRecDepth 100000
set_option maxHeartbeats 4000000
namespace Bus
open PySem PySem.Spec PyProof.Rows L2 Fw
open Dj (Best dist)
/-- a bus can do u behind t -/
noncomputable def inT (L : List Ride) (t u : Trip) : Bool := match dist L t.2.2.1 u.1 with
  | some m => decide (t.2.2.2 + m ≤ u.2.1)
  | none => false
theorem inT_iff {L : List Ride} {t u : Trip} : inT L t u = true ↔ ∃ m, dist L t.2.2.1 u.1 = some m ∧ t.2.2.2 + m ≤ u.2.1 := by
  unfold inT
  cases e : dist L t.2.2.1 u.1 with
  | none => exact ⟨fun z => (by cases z), fun ⟨_, z, _⟩ => by cases z⟩
  | some m => exact ⟨fun z => ⟨m, rfl, of_decide_eq_true z⟩, fun ⟨_, z, h⟩ => by cases z; exact decide_eq_true h⟩
theorem inT_irr {L : List Ride} (hL : ∀ r ∈ L, 1 ≤ r.2.2) {t : Trip} (ht : OkT t) : inT L t t = false := by
  cases e : inT L t t with
  | false => rfl
  | true =>
    obtain ⟨m, h1, h2⟩ := inT_iff.mp e
    have := Dj.dist_nn hL h1
    have := (okT_iff.mp ht).2.2.2.1
    omega
theorem inT_trans {rs : List Ride} {ts : List Trip} (hr : ∀ r ∈ rs, OkR r) (ht : ∀ t ∈ ts, OkT t) {t u v : Trip} (hu : u ∈ ts) (h1 : inT (laid rs ts) t u = true) (h2 : inT (laid rs ts) u v = true) : inT (laid rs ts) t v = true := by
  have hL := laid_pos hr ht
  obtain ⟨m1, a1, a2⟩ := inT_iff.mp h1
  obtain ⟨m2, b1, b2⟩ := inT_iff.mp h2
  have hlt := (okT_iff.mp (ht u hu)).2.2.2.1
  by_cases e : u.1 = u.2.2.1
  · rw [← e] at b1
    obtain ⟨o, c1, c2⟩ := Dj.dist_on hL a1 b1
    exact inT_iff.mpr ⟨o, c1, by omega⟩
  · have hin : ((u.1, u.2.2.1, u.2.2.2 - u.2.1) : Ride) ∈ laid rs ts := by
      unfold laid
      exact List.mem_append_right _ (List.mem_map.mpr ⟨u, List.mem_filter.mpr ⟨hu, by simp [e]⟩, rfl⟩)
    obtain ⟨o1, c1, c2⟩ := Dj.dist_road hL hin a1
    have c1 : dist (laid rs ts) t.2.2.1 u.2.2.1 = some o1 := c1
    have c2 : o1 ≤ m1 + (u.2.2.2 - u.2.1) := c2
    obtain ⟨o, d1, d2⟩ := Dj.dist_on hL c1 b1
    exact inT_iff.mpr ⟨o, d1, by omega⟩
theorem inT_asym {rs : List Ride} {ts : List Trip} (hr : ∀ r ∈ rs, OkR r) (ht : ∀ t ∈ ts, OkT t) {t u : Trip} (ht' : t ∈ ts) (hu : u ∈ ts) (h1 : inT (laid rs ts) t u = true) : inT (laid rs ts) u t = false := by
  cases e : inT (laid rs ts) u t with
  | false => rfl
  | true =>
    have := inT_trans hr ht hu h1 e
    rw [inT_irr (laid_pos hr ht) (ht t ht')] at this
    cases this
end Bus

set_option maxRecDepth 100000
set_option maxHeartbeats 4000000
namespace K8
open PySem PySem.Spec PyProof.Rows L2 Fw Bus
open Dj (Best dist)
local macro_rules | `(tactic| walk_at "sel") => `(tactic| repeat (first | with_reducible apply Sel.z | apply Sel.s))
local macro_rules | `(tactic| walk_at "upd") => `(tactic| repeat (first | with_reducible apply Upd.z | apply Upd.s))
local macro_rules | `(tactic| walk_at "has") => `(tactic| repeat (first | with_reducible apply Has.z | apply Has.s))
local macro_rules | `(tactic| walk_at "fz") => `(tactic| repeat (first | exact Fz.nil | apply Fz.un | apply Fz.dat | apply Fz.scr | apply Fz.rng | apply Fz.dic | apply Fz.ldc | apply Fz.own | apply Fz.odi | apply Fz.any))
local macro_rules | `(tactic| walk_at "bi") => `(tactic| first | with_reducible exact BI.len | with_reducible exact BI.max | with_reducible exact BI.min | with_reducible exact BI.all | with_reducible exact BI.any | with_reducible exact BI.sorted | with_reducible exact BI.sum | with_reducible exact BI.abs)
local macro_rules | `(tactic| walk_at "bt") => `(tactic| first | with_reducible exact BT.list | with_reducible exact BT.tuple | with_reducible exact BT.str | with_reducible exact BT.int | with_reducible exact BT.bool | with_reducible exact BT.dict)
local macro_rules | `(tactic| walk_at "bd") => `(tactic| first | exact bd_add | exact bd_sub | (apply bd_mod <;> try decide) | (apply bd_fdiv <;> try decide) | apply bd_adds | apply bd_muls | apply bd_mul | apply bd_cat)
local macro_rules | `(tactic| walk_at "cd") => `(tactic| first | exact cd_lt | exact cd_le | exact cd_gt | exact cd_ge | exact cd_eqi | exact cd_nei | exact cd_eqs | exact cd_nes | exact cd_inSign | apply cd_eqD (Nm.hu (by assumption)) | apply cd_neD (Nm.hu (by assumption)) | apply cd_inD (Nm.hu5 (by assumption)) | apply cd_notInD (Nm.hu5 (by assumption)))
local macro_rules | `(tactic| walk_at "id") => `(tactic| first | (apply id_l <;> try first | assumption | rfl) | (apply id_t <;> try first | assumption | rfl) | (apply id_s <;> try first | assumption | (show Str.length _ ≤ sizeLine; decide +kernel)))
local macro_rules | `(tactic| walk_at "cl") => `(tactic| first | exact cl_lenL | exact cl_lenT | apply cl_lenS | exact cl_list | exact cl_max2 (Nm.calm (by assumption)) | exact cl_all (Nm.calm (by assumption)))
local macro_rules | `(tactic| walk_at "x") => `(tactic| first
  | exact xe_int | exact xe_str | exact xe_bl | exact xe_non
  | (apply ve; · assumption
     · walk_at "sel")
  | (apply ve'; · assumption
     · walk_at "sel"
     all_goals (first | rfl | (intro z; cases z; done)))
  | (apply gle_int; · assumption
     · walk_at "has"
     · with_reducible assumption)
  | (apply gle_str; · assumption
     · walk_at "has"
     · with_reducible assumption)
  | (show Nm _ _ _ _ _ _ _ _ _ _; assumption)
  | (apply xe_bin <;> try walk_at "x") | walk_at "bd"
  | (apply xt_cmp <;> try walk_at "x") | (apply xe_cmp <;> try walk_at "x") | walk_at "cd"
  | (show behindInMarks _ _ = false; first | exact nomark _ | rfl)
  | (apply xt_not <;> try walk_at "x") | (apply xe_not <;> try walk_at "x")
  | (apply xe_unop <;> try walk_at "x") | exact ud_neg
  | (apply xt_pw; apply xw_and <;> try walk_at "x") | (apply xt_pw; apply xw_or <;> try walk_at "x")
  | (apply xw_and <;> try walk_at "x") | (apply xw_or <;> try walk_at "x") | (apply xw_and1 <;> try walk_at "x") | (apply xw_or1 <;> try walk_at "x")
  | (apply xe_and <;> try walk_at "x") | (apply xe_or <;> try walk_at "x") | (apply xe_one <;> try walk_at "x")
  | (apply cisi; · assumption
     · walk_at "bt"
     · walk_at "has"
     · walk_at "has"
     · walk_at "has"
     · walk_at "has"
     all_goals try walk_at "x")
  | (apply cbi; · assumption
     · walk_at "bi"
     · walk_at "has"
     · walk_at "has"
     all_goals try walk_at "x")
  | (apply cty; · assumption
     · walk_at "bt"
     · walk_at "has"
     · walk_at "has"
     all_goals walk_at "x")
  | (apply xe_fr (c := .own _)
     (apply cty; · assumption
      · walk_at "bt"
      · walk_at "has"
      · walk_at "has"
      all_goals walk_at "x"))
  | (apply cty; · assumption
     · walk_at "bt"
     · walk_at "has"
     · walk_at "has"
     all_goals try walk_at "x")
  | walk_at "cl"
  | exact xd_nil | (apply xd_cons <;> try walk_at "x") | exact xa_nil | (apply xa_c <;> try walk_at "x")
  | (apply xe_list <;> try walk_at "x") | (apply xe_tup <;> try walk_at "x")
  | (apply xe_ix <;> try walk_at "x") | walk_at "id"
  | (show PlainIx _; exact fun _ _ => rfl)
  | (apply xt_chainI op_le op_le <;> try walk_at "x") | (apply xt_chainI op_le op_lt <;> try walk_at "x") | (apply xe_chainI op_le op_le <;> try walk_at "x") | (apply xe_chainI op_le op_lt <;> try walk_at "x")
  | (apply xt_val <;> try walk_at "x")
  | (apply xe_fr (c := .own _) <;> try walk_at "x")
  | (show List.length _ ≤ 100000; exact Nat.le_of_ble_eq_true rfl)
  | (show lastMarks _ _ = false; with_unfolding_all rfl)
  | (show _ = _; rfl)
  | (intro _; walk_at "x"))
structure AInT where
  L : List Ride
  t : Trip
  u : Trip
  F : List Dj.Fd
  B : Best L t.2.2.1 F
  hL : ∀ r ∈ L, 1 ≤ r.2.2
abbrev cInTime (K : PySem.W.Frag) : Sp := Con K (fun a : AInT => [.dic (foundD a.F), .dat (tripD a.t), .dat (tripD a.u)]) (fun a c => c = .dat (.bool (inT a.L a.t a.u)))
theorem inT_found {L : List Ride} {t u : Trip} {F : List Dj.Fd} (B : Best L t.2.2.1 F) (hL : ∀ r ∈ L, 1 ≤ r.2.2) : (∃ m b, lookD (foundD F) (.inr u.1) = some (.tuple [.int m, .str b]) ∧ inT L t u = decide (t.2.2.2 + m ≤ u.2.1) ∧ dist L t.2.2.1 u.1 = some m) ∨ (lookD (foundD F) (.inr u.1) = none ∧ inT L t u = false ∧ dist L t.2.2.1 u.1 = none) := by
  rcases look_found_at B.nd u.1 with ⟨m, b, hf, lk⟩ | ⟨hn, lk⟩
  · have e : dist L t.2.2.1 u.1 = some m := by
      rw [B.dist_eq hL]
      exact Dj.at_mem B.nd hf
    refine .inl ⟨m, b, lk, ?_, e⟩
    unfold inT
    rw [e]
  · have e : dist L t.2.2.1 u.1 = none := by
      rw [B.dist_eq hL]
      cases q : Dj.at? F u.1 with
      | none => rfl
      | some m =>
        obtain ⟨b, hb⟩ := Dj.at_some q
        exact absurd rfl (hn _ hb)
    refine .inr ⟨lk, ?_, e⟩
    unfold inT
    rw [e]
section
variable {P : Program} {w : World} {K : PySem.W.Frag} {mg : Str → Option Value} {base : Heap}
theorem ok_in_time {f : Addr} {fd : FuncData} {k : Nat} (F : Fun K "in_time" "in_time" s_in_time f fd) (hb : Bl mg) : FnOk P w K mg base CX0 (k + 1) f fd ["found", "trip", "later"] (cInTime K) := by
  refine fn_con F sc_in_time (fun _ => rfl) fun cdv A outer s H E hr a => ?_
  obtain ⟨nm, nd⟩ := nm_in_time (P := P) (w := w) (K := K) (mg := mg) (base := base) (outer := outer) (H := H) (E := E) hb hr
  obtain ⟨L, t, u, F, B, hL⟩ := a
  show XSs _ [.dic (foundD F), .dat (tripD t), .dat (tripD u), .un] _ { nx := fun _ => _, rt := fun c => c = .dat (.bool (inT L t u)) }
  have hi := inT_found (u := u) B hL
  obtain ⟨b1, e1, b2, e2⟩ := u
  obtain ⟨a1, d1, a2, d2⟩ := t
  unfold tripD
  refine xs_cons (set nm nd (c := .dat (.str b1)) (by walk_at "x") (by walk_at "upd") ?_)
  rcases hi with ⟨m, b, lk, hv, _⟩ | ⟨lk, hv, _⟩
  · rw [hv]
    refine xs_cons (x_ret (c := .dat (.bool (true && decide (d2 + m ≤ e1)))) (xe_and (XE.is (xe_din nm (kd := .str b1) (kvs := foundD F) (by walk_at "x") (xe_ldc (by walk_at "x")) rfl) (by rw [lk]; rfl)) fun _ => xe_one (xe_cmp (xe_bin (by walk_at "x") (xe_ix (d := .tuple [.int m, .str b]) (xe_dg nm (kvs := foundD F) (kd := .str b1) (xe_ldc (by walk_at "x")) (by walk_at "x") rfl lk) (by walk_at "x") (by walk_at "id")) bd_add) (by walk_at "x") cd_le)) ?_)
    rw [Bool.true_and]
  · rw [hv]
    exact xs_cons (x_ret (xe_andF (XE.is (xe_din nm (kd := .str b1) (kvs := foundD F) (by walk_at "x") (xe_ldc (by walk_at "x")) rfl) (by rw [lk]; rfl))) rfl)
end
end K8

set_option maxRecDepth 100000
set_option maxHeartbeats 4000000
namespace K8
open PySem PySem.Spec PyProof.Rows L2 Fw Bus
open Dj (Best dist)
local macro_rules | `(tactic| walk_at "sel") => `(tactic| repeat (first | with_reducible apply Sel.z | apply Sel.s))
local macro_rules | `(tactic| walk_at "upd") => `(tactic| repeat (first | with_reducible apply Upd.z | apply Upd.s))
local macro_rules | `(tactic| walk_at "has") => `(tactic| repeat (first | with_reducible apply Has.z | apply Has.s))
local macro_rules | `(tactic| walk_at "fz") => `(tactic| repeat (first | exact Fz.nil | apply Fz.un | apply Fz.dat | apply Fz.scr | apply Fz.rng | apply Fz.dic | apply Fz.ldc | apply Fz.own | apply Fz.odi | apply Fz.any))
local macro_rules | `(tactic| walk_at "bi") => `(tactic| first | with_reducible exact BI.len | with_reducible exact BI.max | with_reducible exact BI.min | with_reducible exact BI.all | with_reducible exact BI.any | with_reducible exact BI.sorted | with_reducible exact BI.sum | with_reducible exact BI.abs)
local macro_rules | `(tactic| walk_at "bt") => `(tactic| first | with_reducible exact BT.list | with_reducible exact BT.tuple | with_reducible exact BT.str | with_reducible exact BT.int | with_reducible exact BT.bool | with_reducible exact BT.dict)
local macro_rules | `(tactic| walk_at "bd") => `(tactic| first | exact bd_add | exact bd_sub | (apply bd_mod <;> try decide) | (apply bd_fdiv <;> try decide) | apply bd_adds | apply bd_muls | apply bd_mul | apply bd_cat)
local macro_rules | `(tactic| walk_at "cd") => `(tactic| first | exact cd_lt | exact cd_le | exact cd_gt | exact cd_ge | exact cd_eqi | exact cd_nei | exact cd_eqs | exact cd_nes | exact cd_inSign | apply cd_eqD (Nm.hu (by assumption)) | apply cd_neD (Nm.hu (by assumption)) | apply cd_inD (Nm.hu5 (by assumption)) | apply cd_notInD (Nm.hu5 (by assumption)))
local macro_rules | `(tactic| walk_at "id") => `(tactic| first | (apply id_l <;> try first | assumption | rfl) | (apply id_t <;> try first | assumption | rfl) | (apply id_s <;> try first | assumption | (show Str.length _ ≤ sizeLine; decide +kernel)))
local macro_rules | `(tactic| walk_at "cl") => `(tactic| first | exact cl_lenL | exact cl_lenT | apply cl_lenS | exact cl_list | exact cl_max2 (Nm.calm (by assumption)) | exact cl_all (Nm.calm (by assumption)))
local macro_rules | `(tactic| walk_at "x") => `(tactic| first
  | exact xe_int | exact xe_str | exact xe_bl | exact xe_non
  | (apply ve; · assumption
     · walk_at "sel")
  | (apply ve'; · assumption
     · walk_at "sel"
     all_goals (first | rfl | (intro z; cases z; done)))
  | (apply gle_int; · assumption
     · walk_at "has"
     · with_reducible assumption)
  | (apply gle_str; · assumption
     · walk_at "has"
     · with_reducible assumption)
  | (show Nm _ _ _ _ _ _ _ _ _ _; assumption)
  | (apply xe_bin <;> try walk_at "x") | walk_at "bd"
  | (apply xt_cmp <;> try walk_at "x") | (apply xe_cmp <;> try walk_at "x") | walk_at "cd"
  | (show behindInMarks _ _ = false; first | exact nomark _ | rfl)
  | (apply xt_not <;> try walk_at "x") | (apply xe_not <;> try walk_at "x")
  | (apply xe_unop <;> try walk_at "x") | exact ud_neg
  | (apply xt_pw; apply xw_and <;> try walk_at "x") | (apply xt_pw; apply xw_or <;> try walk_at "x")
  | (apply xw_and <;> try walk_at "x") | (apply xw_or <;> try walk_at "x") | (apply xw_and1 <;> try walk_at "x") | (apply xw_or1 <;> try walk_at "x")
  | (apply xe_and <;> try walk_at "x") | (apply xe_or <;> try walk_at "x") | (apply xe_one <;> try walk_at "x")
  | (apply cisi; · assumption
     · walk_at "bt"
     · walk_at "has"
     · walk_at "has"
     · walk_at "has"
     · walk_at "has"
     all_goals try walk_at "x")
  | (apply cbi; · assumption
     · walk_at "bi"
     · walk_at "has"
     · walk_at "has"
     all_goals try walk_at "x")
  | (apply cty; · assumption
     · walk_at "bt"
     · walk_at "has"
     · walk_at "has"
     all_goals walk_at "x")
  | (apply xe_fr (c := .own _)
     (apply cty; · assumption
      · walk_at "bt"
      · walk_at "has"
      · walk_at "has"
      all_goals walk_at "x"))
  | (apply cty; · assumption
     · walk_at "bt"
     · walk_at "has"
     · walk_at "has"
     all_goals try walk_at "x")
  | walk_at "cl"
  | exact xd_nil | (apply xd_cons <;> try walk_at "x") | exact xa_nil | (apply xa_c <;> try walk_at "x")
  | (apply xe_list <;> try walk_at "x") | (apply xe_tup <;> try walk_at "x")
  | (apply xe_ix <;> try walk_at "x") | walk_at "id"
  | (show PlainIx _; exact fun _ _ => rfl)
  | (apply xt_chainI op_le op_le <;> try walk_at "x") | (apply xt_chainI op_le op_lt <;> try walk_at "x") | (apply xe_chainI op_le op_le <;> try walk_at "x") | (apply xe_chainI op_le op_lt <;> try walk_at "x")
  | (apply xt_val <;> try walk_at "x")
  | (apply xe_fr (c := .own _) <;> try walk_at "x")
  | (show List.length _ ≤ 100000; exact Nat.le_of_ble_eq_true rfl)
  | (show lastMarks _ _ = false; with_unfolding_all rfl)
  | (show _ = _; rfl)
  | (intro _; walk_at "x"))
structure ATr where
  L : List Ride
  src : Str
  other : Str
  F : List Dj.Fd
  B : Best L src F
  hL : ∀ r ∈ L, 1 ≤ r.2.2
  hl : L.length ≤ 1000
/-- what way tells -/
def WayD (L : List Ride) (src other : Str) (c : Cell) : Prop := (dist L src other = none ∧ c = .dat .none) ∨ ∃ zs m, dist L src other = some m ∧ WayOk L src other zs ∧ c = .own (zs.map .str)
abbrev cTraced (K : PySem.W.Frag) : Sp := Con K (fun a : ATr => [.dic (foundD a.F), .dat (.str a.src), .dat (.str a.other)]) (fun a c => WayD a.L a.src a.other c)
section
variable {P : Program} {w : World} {K : PySem.W.Frag} {mg : Str → Option Value} {base : Heap}
theorem ok_traced {f : Addr} {fd : FuncData} {k : Nat} (F : Fun K "traced" "traced" s_traced f fd) (hb : Bl mg) : FnOk P w K mg base CX0 (k + 1) f fd ["found", "one", "other"] (cTraced K) := by
  refine fn_con F sc_traced (fun _ => rfl) fun cdv A outer s H E hr a => ?_
  obtain ⟨nm, nd⟩ := nm_traced (P := P) (w := w) (K := K) (mg := mg) (base := base) (outer := outer) (H := H) (E := E) hb hr
  obtain ⟨L, src, other, F, B, hL, hl⟩ := a
  show XSs _ [.dic (foundD F), .dat (.str src), .dat (.str other), .un] _ { nx := fun _ => WayD L src other _, rt := WayD L src other }
  rcases look_found_at B.nd other with ⟨m, b, hf, lk⟩ | ⟨hn, lk⟩
  · refine xs_cons (if_ (kk := false) (by walk_at "fz") (XT.is (xt_dnin nm (kd := .str other) (kvs := foundD F) (by walk_at "x") (xe_ldc (by walk_at "x")) rfl) (by rw [lk]; rfl)) (fun h => by cases h) fun _ => xs_nil ?_)
    refine xs_cons (set nm nd (c := .own (([other] : List Str).map .str)) (by walk_at "x") (by walk_at "upd") ?_)
    refine xs_cons (while_ nd (fun n c => ∃ bs x m b, BackOk L src other F bs x m b ∧ n = Dj.rank F m ∧ c = [.dic (foundD F), .dat (.str src), .dat (.str other), .own (bs.map .str)]) _ ⟨[other], other, m, b, .start hf, rfl, rfl⟩ ?_)
    rintro n _ ⟨bs, x, mm, bb, I, rfl, rfl⟩
    obtain ⟨l, el⟩ := I.last
    have ha : atI (bs.map PyData.str) (-1) = some (.str x) := by
      rw [el, List.map_append]
      exact atI_last
    refine ⟨!decide (x = src), _, by walk_at "fz", by walk_at "x", fun hk => ?_, fun hk => ?_⟩
    · have hx : x ≠ src := by simpa using hk
      obtain ⟨m', b', I', lt⟩ := I.next B hL hx
      have lx := look_found_mem B.nd I.fd
      have bf := B.fl
      have il := I.len
      refine xs_cons (app nm (d := .str bb) (by walk_at "sel") (by walk_at "upd") ?_ (by rw [List.length_map]; omega) (xs_nil ⟨_, lt, bs ++ [bb], bb, m', b', I', rfl, by rw [List.map_append]; rfl⟩))
      refine xe_ix (d := .tuple [.int mm, .str bb]) (xe_dg nm (kvs := foundD F) (kd := .str x) (xe_ldc (by walk_at "x")) (xe_ixOwn nm (by walk_at "sel") (by walk_at "x") ha) rfl lx) (by walk_at "x") (by walk_at "id")
    · have hx : x = src := by simpa using hk
      subst hx
      refine xs_seal nm (x := "back") (by walk_at "sel") (by walk_at "upd") ?_
      refine xs_cons (x_ret (c := .own (bs.reverse.map .str)) ((xe_rev (by walk_at "x")).is (by rw [List.map_reverse])) ?_)
      refine .inr ⟨bs.reverse, m, ?_, I.done B, rfl⟩
      rw [B.dist_eq hL]
      exact Dj.at_mem B.nd hf
  · refine xs_cons (if_ (kk := true) (by walk_at "fz") (XT.is (xt_dnin nm (kd := .str other) (kvs := foundD F) (by walk_at "x") (xe_ldc (by walk_at "x")) rfl) (by rw [lk]; rfl)) (fun _ => ?_) fun h => by cases h)
    refine xs_cons (x_ret xe_non (.inl ⟨?_, rfl⟩))
    rw [B.dist_eq hL]
    cases e : Dj.at? F other with
    | none => rfl
    | some m =>
      obtain ⟨b, hb⟩ := Dj.at_some e
      exact absurd rfl (hn _ hb)
end
end K8

set_option maxRecDepth 100000
set_option maxHeartbeats 4000000
namespace K8
open PySem PySem.Spec PyProof.Rows L2 Fw Bus
open Dj (Best dist)
local macro_rules | `(tactic| walk_at "sel") => `(tactic| repeat (first | with_reducible apply Sel.z | apply Sel.s))
local macro_rules | `(tactic| walk_at "upd") => `(tactic| repeat (first | with_reducible apply Upd.z | apply Upd.s))
local macro_rules | `(tactic| walk_at "has") => `(tactic| repeat (first | with_reducible apply Has.z | apply Has.s))
local macro_rules | `(tactic| walk_at "fz") => `(tactic| repeat (first | exact Fz.nil | apply Fz.un | apply Fz.dat | apply Fz.scr | apply Fz.rng | apply Fz.dic | apply Fz.ldc | apply Fz.own | apply Fz.odi | apply Fz.any))
local macro_rules | `(tactic| walk_at "bi") => `(tactic| first | with_reducible exact BI.len | with_reducible exact BI.max | with_reducible exact BI.min | with_reducible exact BI.all | with_reducible exact BI.any | with_reducible exact BI.sorted | with_reducible exact BI.sum | with_reducible exact BI.abs)
local macro_rules | `(tactic| walk_at "bt") => `(tactic| first | with_reducible exact BT.list | with_reducible exact BT.tuple | with_reducible exact BT.str | with_reducible exact BT.int | with_reducible exact BT.bool | with_reducible exact BT.dict)
local macro_rules | `(tactic| walk_at "bd") => `(tactic| first | exact bd_add | exact bd_sub | (apply bd_mod <;> try decide) | (apply bd_fdiv <;> try decide) | apply bd_adds | apply bd_muls | apply bd_mul | apply bd_cat)
local macro_rules | `(tactic| walk_at "cd") => `(tactic| first | exact cd_lt | exact cd_le | exact cd_gt | exact cd_ge | exact cd_eqi | exact cd_nei | exact cd_eqs | exact cd_nes | exact cd_inSign | apply cd_eqD (Nm.hu (by assumption)) | apply cd_neD (Nm.hu (by assumption)) | apply cd_inD (Nm.hu5 (by assumption)) | apply cd_notInD (Nm.hu5 (by assumption)))
local macro_rules | `(tactic| walk_at "id") => `(tactic| first | (apply id_l <;> try first | assumption | rfl) | (apply id_t <;> try first | assumption | rfl) | (apply id_s <;> try first | assumption | (show Str.length _ ≤ sizeLine; decide +kernel)))
local macro_rules | `(tactic| walk_at "cl") => `(tactic| first | exact cl_lenL | exact cl_lenT | apply cl_lenS | exact cl_list | exact cl_max2 (Nm.calm (by assumption)) | exact cl_all (Nm.calm (by assumption)))
local macro_rules | `(tactic| walk_at "x") => `(tactic| first
  | exact xe_int | exact xe_str | exact xe_bl | exact xe_non
  | (apply ve; · assumption
     · walk_at "sel")
  | (apply ve'; · assumption
     · walk_at "sel"
     all_goals (first | rfl | (intro z; cases z; done)))
  | (apply gle_int; · assumption
     · walk_at "has"
     · with_reducible assumption)
  | (apply gle_str; · assumption
     · walk_at "has"
     · with_reducible assumption)
  | (show Nm _ _ _ _ _ _ _ _ _ _; assumption)
  | (apply xe_bin <;> try walk_at "x") | walk_at "bd"
  | (apply xt_cmp <;> try walk_at "x") | (apply xe_cmp <;> try walk_at "x") | walk_at "cd"
  | (show behindInMarks _ _ = false; first | exact nomark _ | rfl)
  | (apply xt_not <;> try walk_at "x") | (apply xe_not <;> try walk_at "x")
  | (apply xe_unop <;> try walk_at "x") | exact ud_neg
  | (apply xt_pw; apply xw_and <;> try walk_at "x") | (apply xt_pw; apply xw_or <;> try walk_at "x")
  | (apply xw_and <;> try walk_at "x") | (apply xw_or <;> try walk_at "x") | (apply xw_and1 <;> try walk_at "x") | (apply xw_or1 <;> try walk_at "x")
  | (apply xe_and <;> try walk_at "x") | (apply xe_or <;> try walk_at "x") | (apply xe_one <;> try walk_at "x")
  | (apply cisi; · assumption
     · walk_at "bt"
     · walk_at "has"
     · walk_at "has"
     · walk_at "has"
     · walk_at "has"
     all_goals try walk_at "x")
  | (apply cbi; · assumption
     · walk_at "bi"
     · walk_at "has"
     · walk_at "has"
     all_goals try walk_at "x")
  | (apply cty; · assumption
     · walk_at "bt"
     · walk_at "has"
     · walk_at "has"
     all_goals walk_at "x")
  | (apply xe_fr (c := .own _)
     (apply cty; · assumption
      · walk_at "bt"
      · walk_at "has"
      · walk_at "has"
      all_goals walk_at "x"))
  | (apply cty; · assumption
     · walk_at "bt"
     · walk_at "has"
     · walk_at "has"
     all_goals try walk_at "x")
  | walk_at "cl"
  | exact xd_nil | (apply xd_cons <;> try walk_at "x") | exact xa_nil | (apply xa_c <;> try walk_at "x")
  | (apply xe_list <;> try walk_at "x") | (apply xe_tup <;> try walk_at "x")
  | (apply xe_ix <;> try walk_at "x") | walk_at "id"
  | (show PlainIx _; exact fun _ _ => rfl)
  | (apply xt_chainI op_le op_le <;> try walk_at "x") | (apply xt_chainI op_le op_lt <;> try walk_at "x") | (apply xe_chainI op_le op_le <;> try walk_at "x") | (apply xe_chainI op_le op_lt <;> try walk_at "x")
  | (apply xt_val <;> try walk_at "x")
  | (apply xe_fr (c := .own _) <;> try walk_at "x")
  | (show List.length _ ≤ 100000; exact Nat.le_of_ble_eq_true rfl)
  | (show lastMarks _ _ = false; with_unfolding_all rfl)
  | (show _ = _; rfl)
  | (intro _; walk_at "x"))
section
variable {P : Program} {w : World} {K : PySem.W.Frag} {mg : Str → Option Value} {base : Heap}
theorem isTrip_len {ds : List PyData} (h : ds.length ≠ 4) : isTrip (.tuple ds) = false := by
  match ds, h with
  | [], _ => rfl
  | [a], _ => cases a <;> rfl
  | [a, b], _ => cases a <;> cases b <;> rfl
  | [a, b, c], _ => cases a <;> cases b <;> cases c <;> rfl
  | [a, b, c, d], h => exact absurd rfl h
  | a :: b :: c :: d :: e :: f, _ => cases a <;> cases b <;> cases c <;> cases d <;> rfl
theorem isTrip_place {a b c d : PyData} (h : (!isPlace a || !isPlace c) = true) : isTrip (.tuple [a, b, c, d]) = false := by
  cases a <;> cases b <;> cases c <;> cases d <;> first | rfl | skip
  simp only [isTrip]
  rename_i x i y l
  cases e : isPlace (.str x) <;> cases e' : isPlace (.str y) <;> first | rfl | skip
  rw [e, e'] at h
  cases h
theorem isTrip_whole {x y : Str} {b d : PyData} (h : (!isWhole b 0 99999 || !isWhole d 0 99999) = true) : isTrip (.tuple [.str x, b, .str y, d]) = false := by
  cases b <;> cases d <;> first | rfl | skip
  simp only [isTrip]
  rename_i i l
  cases e : isWhole (.int i) 0 99999 <;> cases e' : isWhole (.int l) 0 99999 <;> first | simp | skip
  rw [e, e'] at h
  cases h
theorem isWhole_int {d : PyData} {l m : Int} (h : isWhole d l m = true) : ∃ z, d = .int z := by
  cases d with
  | int z => exact ⟨z, rfl⟩
  | _ => cases h
theorem ok_is_trip {f : Addr} {fd : FuncData} {k : Nat} (F : Fun K "is_trip" "is_trip" s_is_trip f fd) (hb : Bl mg) {t : Tok} (gLM : mg "LAST_MINUTE" = some (.int 99999 t)) {j : Nat} (hj : j ≤ k) (CP : Cal P w K mg base "is_place" j (cIsPlace K)) (CW : Cal P w K mg base "is_whole" j (cIsWhole K)) :
    FnOk P w K mg base CX0 (k + 1) f fd ["thing"] (cIsTrip K) := by
  refine fn_con F sc_is_trip (fun _ => rfl) fun cdv A outer s H E hr ⟨d, hd⟩ => ?_
  obtain ⟨nm, nd⟩ := nm_is_trip (P := P) (w := w) (K := K) (mg := mg) (base := base) (outer := outer) (H := H) (E := E) hb hr
  show XSs _ [.dat d, .un, .un, .un, .un] _ _
  by_cases hT : isT d "tuple" = true
  · obtain ⟨ds, rfl⟩ : ∃ ds, d = .tuple ds := by
      cases d with
      | tuple ds => exact ⟨ds, rfl⟩
      | _ => simp [isT, isTn, tyD] at hT
    refine xs_cons (if_ (by walk_at "fz") (by walk_at "x") ?_ ?_)
    · intro hk
      refine xs_cons (x_ret (by walk_at "x") ?_)
      show _ = _
      have h3 : ds.length ≠ 4 := by
        intro h3
        rw [hT, h3] at hk
        simp at hk
      rw [isTrip_len h3]
    · intro hk0
      have h3 : ds.length = 4 := by
        rw [hT] at hk0
        simp at hk0
        omega
      clear hk0
      obtain ⟨a, b, c, d, rfl⟩ : ∃ a b c d, ds = [a, b, c, d] := by
        match ds, h3 with
        | [a, b, c, d], _ => exact ⟨a, b, c, d, rfl⟩
      have ha : Short a := hd _ rfl a (by simp)
      have hc' : Short c := hd _ rfl c (by simp)
      refine xs_nil ?_
      refine xs_cons (x_asg (d := .tuple [a, b, c, d]) (by walk_at "x") (xg_tup nm.calm (xgs_cons (gnm nm nd (by walk_at "upd") (xgs_cons (gnm nm nd (by walk_at "upd") (xgs_cons (gnm nm nd (by walk_at "upd") (xgs_cons (gnm nm nd (by walk_at "upd") (xgs_nil ?_)))))))))))
      refine xs_cons (if_ (kk := !isPlace a || !isPlace c) (by walk_at "fz") ?_ ?_ ?_)
      · refine xt_pw (xw_or (xt_not (xt_val (calE nm CP hj (by walk_at "has") ⟨a, ha⟩ ?_))) fun _ => xw_or1 (xt_not (xt_val (calE nm CP hj (by walk_at "has") ⟨c, hc'⟩ ?_))))
        · walk_at "x"
        · walk_at "x"
      · intro hk
        refine xs_cons (x_ret (by walk_at "x") ?_)
        show _ = _
        rw [isTrip_place hk]
      · intro hk
        rw [Bool.or_eq_false_iff] at hk
        obtain ⟨x, rfl⟩ := isPlace_str (not_f hk.1)
        obtain ⟨y, rfl⟩ := isPlace_str (not_f hk.2)
        refine xs_nil ?_
        refine xs_cons (if_ (kk := !isWhole b 0 99999 || !isWhole d 0 99999) (by walk_at "fz") ?_ ?_ ?_)
        · refine xt_pw (xw_or (xt_not (xt_val (calE nm CW hj (by walk_at "has") (b, 0, 99999) ?_))) fun _ => xw_or1 (xt_not (xt_val (calE nm CW hj (by walk_at "has") (d, 0, 99999) ?_))))
          · walk_at "x"
          · walk_at "x"
        · intro hw
          refine xs_cons (x_ret (by walk_at "x") ?_)
          show _ = _
          rw [isTrip_whole hw]
        · intro hw
          rw [Bool.or_eq_false_iff] at hw
          obtain ⟨i, rfl⟩ := isWhole_int (not_f hw.1)
          obtain ⟨l, rfl⟩ := isWhole_int (not_f hw.2)
          refine xs_nil ?_
          refine xs_cons (x_ret (by walk_at "x") ?_)
          show _ = _
          simp only [isTrip, not_f hk.1, not_f hk.2, not_f hw.1, not_f hw.2, Bool.true_and]
  · have hT : isT d "tuple" = false := by
      cases e : isT d "tuple"
      · rfl
      · exact absurd e hT
    refine xs_cons (if_ (kk := true) (by walk_at "fz") (xt_orT (XT.is (a := !isT d "tuple") (by walk_at "x") (by rw [hT]; rfl))) (fun _ => ?_) (fun h => by cases h))
    refine xs_cons (x_ret (by walk_at "x") ?_)
    show _ = _
    cases d with
    | tuple ds => simp [isT, isTn, tyD] at hT
    | _ => rfl
theorem map_get {α : Type} {f : α → PyData} {l : List α} {i : Nat} {d : PyData} (h : (l.map f)[i]? = some d) : ∃ a, l[i]? = some a ∧ a ∈ l ∧ d = f a := by
  rw [List.getElem?_map] at h
  obtain ⟨a, h1, h2⟩ := Option.map_eq_some_iff.mp h
  exact ⟨a, h1, List.mem_of_getElem? h1, h2.symm⟩
theorem ok_look_at_lists {f : Addr} {fd : FuncData} {k : Nat} (F : Fun K "look_at_lists" "look_at_lists" s_look_at_lists f fd) (hb : Bl mg) {j : Nat} (hj : j ≤ k) (CR : Cal P w K mg base "is_ride" j (cIsRide K)) (CT : Cal P w K mg base "is_trip" j (cIsTrip K)) :
    FnOk P w K mg base CX0 (k + 1) f fd ["rides", "trips"] (cLook K) := by
  refine fn_con F sc_look_at_lists (fun _ => rfl) fun cdv A outer s H E hr a => ?_
  obtain ⟨nm, nd⟩ := nm_look_at_lists (P := P) (w := w) (K := K) (mg := mg) (base := base) (outer := outer) (H := H) (E := E) hb hr
  obtain ⟨rs, ts, hR, hT, lr, lt⟩ := a
  show XSs _ [.dat (.list (rs.map rideD)), .dat (.list (ts.map tripD)), .un, .un, .un] _ _
  refine xs_cons (for_ nm nd (ds := enumD (rs.map rideD)) (fun _ c => ∃ x y z, c = [.dat (.list (rs.map rideD)), .dat (.list (ts.map tripD)), x, y, z]) (enu nm (by walk_at "has") (by walk_at "has") (by walk_at "x")) ⟨_, _, _, rfl⟩ ?_ ?_)
  · rintro i d _ hd ⟨x, y, z, rfl⟩
    obtain ⟨e, he, rfl⟩ := enumD_inv hd
    obtain ⟨r, _, hr', rfl⟩ := map_get he
    refine xg_tup nm.calm (xgs_cons (gnm nm nd (by walk_at "upd") (xgs_cons (gnm nm nd (by walk_at "upd") (xgs_nil ?_)))))
    have hok : isRide (rideD r) = true := hR r hr'
    refine xs_cons (if_ (kk := false) (by walk_at "fz") (XT.is (xt_not (xt_val (calE nm CR hj (by walk_at "has") ⟨rideD r, OkR.short (hR r hr')⟩ ?_))) (by rw [hok]; rfl)) (fun h => by cases h) fun _ => ?_)
    · walk_at "x"
    · exact xs_nil (xs_nil ⟨_, _, _, rfl⟩)
  · rintro _ ⟨x, y, z, rfl⟩
    refine xs_cons (for_ nm nd (ds := enumD (ts.map tripD)) (fun _ c => ∃ x y z, c = [.dat (.list (rs.map rideD)), .dat (.list (ts.map tripD)), x, y, z]) (enu nm (by walk_at "has") (by walk_at "has") (by walk_at "x")) ⟨_, _, _, rfl⟩ ?_ ?_)
    · rintro i d _ hd ⟨x, y, z, rfl⟩
      obtain ⟨e, he, rfl⟩ := enumD_inv hd
      obtain ⟨r, _, hr', rfl⟩ := map_get he
      refine xg_tup nm.calm (xgs_cons (gnm nm nd (by walk_at "upd") (xgs_cons (gnm nm nd (by walk_at "upd") (xgs_nil ?_)))))
      have hok : isTrip (tripD r) = true := hT r hr'
      refine xs_cons (if_ (kk := false) (by walk_at "fz") (XT.is (xt_not (xt_val (calE nm CT hj (by walk_at "has") ⟨tripD r, OkT.short (hT r hr')⟩ ?_))) (by rw [hok]; rfl)) (fun h => by cases h) fun _ => ?_)
      · walk_at "x"
      · exact xs_nil (xs_nil ⟨_, _, _, rfl⟩)
    · rintro _ ⟨x, y, z, rfl⟩
      exact xs_nil rfl
/-- what laid_roads and the law's own roads do: a list told, then for each trip that ends elsewhere a road -/
theorem ok_laid_roads {f : Addr} {fd : FuncData} {k : Nat} (F : Fun K "laid_roads" "laid_roads" s_laid_roads f fd) (hb : Bl mg) : FnOk P w K mg base CX0 (k + 1) f fd ["rides", "trips"] (cRoads K) := by
  refine fn_con F sc_laid_roads (fun _ => rfl) fun cdv A outer s H E hr a => ?_
  obtain ⟨nm, nd⟩ := nm_laid_roads (P := P) (w := w) (K := K) (mg := mg) (base := base) (outer := outer) (H := H) (E := E) hb hr
  obtain ⟨rs, ts, hR, hT, lr, lt⟩ := a
  show XSs _ [.dat (.list (rs.map rideD)), .dat (.list (ts.map tripD)), .un, .un, .un, .un, .un] _ _
  refine xs_cons (set nm nd (c := .own (rs.map rideD)) (by walk_at "x") (by walk_at "upd") ?_)
  refine xs_cons (for_ nm nd (ds := ts.map tripD) (fun i c => ∃ x y z u, c = [.dat (.list (rs.map rideD)), .dat (.list (ts.map tripD)), .own ((laid rs (ts.take i)).map rideD), x, y, z, u]) (xi_list (by walk_at "x")) ⟨.un, .un, .un, .un, by simp [laid]⟩ ?_ ?_)
  · rintro i d _ hd ⟨x, y, z, u, rfl⟩
    obtain ⟨t, ht, ht', rfl⟩ := map_get hd
    refine xg_tup nm.calm (xgs_cons (gnm nm nd (by walk_at "upd") (xgs_cons (gnm nm nd (by walk_at "upd") (xgs_cons (gnm nm nd (by walk_at "upd") (xgs_cons (gnm nm nd (by walk_at "upd") (xgs_nil ?_)))))))))
    refine xs_cons (if_ (by walk_at "fz") (by walk_at "x") (fun hk => ?_) fun hk => ?_)
    · have hne : ¬ t.1 = t.2.2.1 := by simpa using hk
      refine xs_cons (app nm (d := rideD (t.1, t.2.2.1, t.2.2.2 - t.2.1)) (by walk_at "sel") (by walk_at "upd") (by walk_at "x") ?_ ?_)
      · rw [List.length_map]
        have h1 := laid_len rs (ts.take i)
        have h2 := List.length_take_le' i ts
        omega
      · refine xs_nil (xs_nil ?_)
        show ∃ x y z u, _ = [_, _, Cell.own ((laid rs (ts.take (i + 1))).map rideD), x, y, z, u]
        rw [laid_take ht, if_neg hne, List.map_append]
        exact ⟨_, _, _, _, rfl⟩
    · have he : t.1 = t.2.2.1 := by simpa using hk
      refine xs_nil (xs_nil ?_)
      show ∃ x y z u, _ = [_, _, Cell.own ((laid rs (ts.take (i + 1))).map rideD), x, y, z, u]
      rw [laid_take ht, if_pos he]
      exact ⟨_, _, _, _, rfl⟩
  · rintro _ ⟨x, y, z, u, rfl⟩
    refine xs_cons (retN nm (c := .own ((laid rs ts).map rideD)) ?_ rfl)
    rw [List.length_map, laid_all]
    walk_at "sel"
end
end K8

set_option maxRecDepth 100000
set_option maxHeartbeats 4000000
namespace K8
open PySem PySem.Spec PyProof.Rows L2 Fw Bus
open Dj (Best dist)
local macro_rules | `(tactic| walk_at "sel") => `(tactic| repeat (first | with_reducible apply Sel.z | apply Sel.s))
local macro_rules | `(tactic| walk_at "upd") => `(tactic| repeat (first | with_reducible apply Upd.z | apply Upd.s))
local macro_rules | `(tactic| walk_at "has") => `(tactic| repeat (first | with_reducible apply Has.z | apply Has.s))
local macro_rules | `(tactic| walk_at "fz") => `(tactic| repeat (first | exact Fz.nil | apply Fz.un | apply Fz.dat | apply Fz.scr | apply Fz.rng | apply Fz.dic | apply Fz.ldc | apply Fz.own | apply Fz.odi | apply Fz.any))
local macro_rules | `(tactic| walk_at "bi") => `(tactic| first | with_reducible exact BI.len | with_reducible exact BI.max | with_reducible exact BI.min | with_reducible exact BI.all | with_reducible exact BI.any | with_reducible exact BI.sorted | with_reducible exact BI.sum | with_reducible exact BI.abs)
local macro_rules | `(tactic| walk_at "bt") => `(tactic| first | with_reducible exact BT.list | with_reducible exact BT.tuple | with_reducible exact BT.str | with_reducible exact BT.int | with_reducible exact BT.bool | with_reducible exact BT.dict)
local macro_rules | `(tactic| walk_at "bd") => `(tactic| first | exact bd_add | exact bd_sub | (apply bd_mod <;> try decide) | (apply bd_fdiv <;> try decide) | apply bd_adds | apply bd_muls | apply bd_mul | apply bd_cat)
local macro_rules | `(tactic| walk_at "cd") => `(tactic| first | exact cd_lt | exact cd_le | exact cd_gt | exact cd_ge | exact cd_eqi | exact cd_nei | exact cd_eqs | exact cd_nes | exact cd_inSign | apply cd_eqD (Nm.hu (by assumption)) | apply cd_neD (Nm.hu (by assumption)) | apply cd_inD (Nm.hu5 (by assumption)) | apply cd_notInD (Nm.hu5 (by assumption)))
local macro_rules | `(tactic| walk_at "id") => `(tactic| first | (apply id_l <;> try first | assumption | rfl) | (apply id_t <;> try first | assumption | rfl) | (apply id_s <;> try first | assumption | (show Str.length _ ≤ sizeLine; decide +kernel)))
local macro_rules | `(tactic| walk_at "cl") => `(tactic| first | exact cl_lenL | exact cl_lenT | apply cl_lenS | exact cl_list | exact cl_max2 (Nm.calm (by assumption)) | exact cl_all (Nm.calm (by assumption)))
local macro_rules | `(tactic| walk_at "x") => `(tactic| first
  | exact xe_int | exact xe_str | exact xe_bl | exact xe_non
  | (apply ve; · assumption
     · walk_at "sel")
  | (apply ve'; · assumption
     · walk_at "sel"
     all_goals (first | rfl | (intro z; cases z; done)))
  | (apply gle_int; · assumption
     · walk_at "has"
     · with_reducible assumption)
  | (apply gle_str; · assumption
     · walk_at "has"
     · with_reducible assumption)
  | (show Nm _ _ _ _ _ _ _ _ _ _; assumption)
  | (apply xe_bin <;> try walk_at "x") | walk_at "bd"
  | (apply xt_cmp <;> try walk_at "x") | (apply xe_cmp <;> try walk_at "x") | walk_at "cd"
  | (show behindInMarks _ _ = false; first | exact nomark _ | rfl)
  | (apply xt_not <;> try walk_at "x") | (apply xe_not <;> try walk_at "x")
  | (apply xe_unop <;> try walk_at "x") | exact ud_neg
  | (apply xt_pw; apply xw_and <;> try walk_at "x") | (apply xt_pw; apply xw_or <;> try walk_at "x")
  | (apply xw_and <;> try walk_at "x") | (apply xw_or <;> try walk_at "x") | (apply xw_and1 <;> try walk_at "x") | (apply xw_or1 <;> try walk_at "x")
  | (apply xe_and <;> try walk_at "x") | (apply xe_or <;> try walk_at "x") | (apply xe_one <;> try walk_at "x")
  | (apply cisi; · assumption
     · walk_at "bt"
     · walk_at "has"
     · walk_at "has"
     · walk_at "has"
     · walk_at "has"
     all_goals try walk_at "x")
  | (apply cbi; · assumption
     · walk_at "bi"
     · walk_at "has"
     · walk_at "has"
     all_goals try walk_at "x")
  | (apply cty; · assumption
     · walk_at "bt"
     · walk_at "has"
     · walk_at "has"
     all_goals walk_at "x")
  | (apply xe_fr (c := .own _)
     (apply cty; · assumption
      · walk_at "bt"
      · walk_at "has"
      · walk_at "has"
      all_goals walk_at "x"))
  | (apply cty; · assumption
     · walk_at "bt"
     · walk_at "has"
     · walk_at "has"
     all_goals try walk_at "x")
  | walk_at "cl"
  | exact xd_nil | (apply xd_cons <;> try walk_at "x") | exact xa_nil | (apply xa_c <;> try walk_at "x")
  | (apply xe_list <;> try walk_at "x") | (apply xe_tup <;> try walk_at "x")
  | (apply xe_ix <;> try walk_at "x") | walk_at "id"
  | (show PlainIx _; exact fun _ _ => rfl)
  | (apply xt_chainI op_le op_le <;> try walk_at "x") | (apply xt_chainI op_le op_lt <;> try walk_at "x") | (apply xe_chainI op_le op_le <;> try walk_at "x") | (apply xe_chainI op_le op_lt <;> try walk_at "x")
  | (apply xt_val <;> try walk_at "x")
  | (apply xe_fr (c := .own _) <;> try walk_at "x")
  | (show List.length _ ≤ 100000; exact Nat.le_of_ble_eq_true rfl)
  | (show lastMarks _ _ = false; with_unfolding_all rfl)
  | (show _ = _; rfl)
  | (intro _; walk_at "x"))
abbrev Stop := Str × Int
def stopD (s : Stop) : PyData := .tuple [.str s.1, .int s.2]
/-- the stops between two trips -/
def BetwOk (L : List Ride) (t u : Trip) (ss : List Stop) : Prop := inT L t u = true ∧ ∃ zs, WayOk L t.2.2.1 u.1 zs ∧ ss = zs.tail.map fun z => (z, t.2.2.2 + (dist L t.2.2.1 z).getD 0)
structure ABt where
  L : List Ride
  t : Trip
  u : Trip
  hL : ∀ r ∈ L, 1 ≤ r.2.2
  hl : L.length ≤ 200
abbrev cBetween (K : PySem.W.Frag) (CN : Addr) : Sp := ConX K (fun a : ABt => [.dat (.list (a.L.map rideD)), .dat (tripD a.t), .dat (tripD a.u)]) (fun a c => ∃ ss, BetwOk a.L a.t a.u ss ∧ ss.length ≤ a.L.length ∧ c = .own (ss.map stopD)) (fun a v => inT a.L a.t a.u = false ∧ v = .ref CN)
theorem way_all {L : List Ride} {src other : Str} {zs : List Str} (hL : ∀ r ∈ L, 1 ≤ r.2.2) (W : WayOk L src other zs) : ∀ (i : Nat) z, zs[i]? = some z → ∃ m, dist L src z = some m := fun i z h => by
  cases i with
  | zero =>
    rw [W.head] at h
    cases h
    exact ⟨0, Dj.dist_src hL⟩
  | succ i =>
    have hl := (List.getElem?_eq_some_iff.mp h).1
    obtain ⟨m, w, _, _, h2⟩ := W.step i _ _ (List.getElem?_eq_getElem (by omega)) h
    exact ⟨_, h2⟩
theorem found_dist {L : List Ride} {src : Str} {F : List Dj.Fd} (B : Best L src F) (hL : ∀ r ∈ L, 1 ≤ r.2.2) {z : Str} {m : Int} (h : dist L src z = some m) : ∃ b, lookD (foundD F) (.inr z) = some (.tuple [.int m, .str b]) := by
  rw [B.dist_eq hL] at h
  obtain ⟨b, hb⟩ := Dj.at_some h
  exact ⟨b, look_found_mem B.nd hb⟩
section
variable {P : Program} {w : World} {K : PySem.W.Frag} {mg : Str → Option Value} {base : Heap}
theorem ok_between {f : Addr} {fd : FuncData} {k : Nat} (F : Fun K "between" "between" s_between f fd) (hb : Bl mg) {CN : Addr} (gN : ExcOk K mg "NotInTime" CN) {j : Nat} (hj : j ≤ k) (CE : Cal P w K mg base "explored" j (cExplored K)) (CI : Cal P w K mg base "in_time" j (cInTime K)) (CT : Cal P w K mg base "traced" j (cTraced K)) :
    FnOk P w K mg base (L2.CX P w) (k + 1) f fd ["laid", "trip", "later"] (cBetween K CN) := by
  refine fnX_con F sc_between (fun _ => rfl) fun cdv A outer s H E hr tk a => ?_
  obtain ⟨nm, nd⟩ := nmx_between (P := P) (w := w) (K := K) (mg := mg) (base := base) (outer := outer) (H := H) (E := E) hb hr
  obtain ⟨L, t, u, hL, hl⟩ := a
  show XSs _ [.dat (.list (L.map rideD)), .dat (tripD t), .dat (tripD u), .un, .un, .un] _ { nx := fun _ => _, rt := fun c => ∃ ss, BetwOk L t u ss ∧ ss.length ≤ L.length ∧ c = .own (ss.map stopD), ex := fun v => inT L t u = false ∧ v = .ref CN, E := _ }
  refine xs_cons (setF nm nd (cal nm CE hj (by walk_at "has") ⟨L, t.2.2.1, by omega, fun r hr => by have := hL r hr; omega⟩ (xa_c (show Fw.XE _ _ _ (.dat (.list (L.map rideD))) from by walk_at "x") rfl (xa_c (xe_ix (d := tripD t) (by walk_at "x") (by walk_at "x") (by unfold tripD; walk_at "id")) rfl xa_nil))) (by walk_at "upd") (by rintro _ ⟨_, rfl, _⟩ z; cases z) ?_)
  rintro _ ⟨F, rfl, B⟩
  have B : Best L t.2.2.1 F := B
  show ∃ cs', Upd _ _ _ (.dic (foundD F)) cs' ∧ _
  refine ⟨_, by walk_at "upd", ?_⟩
  refine xs_cons (if_ (kk := !inT L t u) (by walk_at "fz") (xt_not (xt_val (calE nm CI hj (by walk_at "has") ⟨L, t, u, F, B, hL⟩ (by walk_at "x")))) (fun hk => ?_) fun hk => xs_nil ?_)
  · exact xs_cons (x_raise nm tk gN (by walk_at "has") rfl ⟨by simpa using hk, rfl⟩)
  have hk : inT L t u = true := by simpa using hk
  obtain ⟨m0, hm0, hle⟩ := inT_iff.mp hk
  refine xs_cons (setF nm nd (cal nm CT hj (by walk_at "has") ⟨L, t.2.2.1, u.1, F, B, hL, by omega⟩ (xa_c (by walk_at "x") rfl (xa_c (xe_ix (d := tripD t) (by walk_at "x") (by walk_at "x") (by unfold tripD; walk_at "id")) rfl (xa_c (xe_ix (d := tripD u) (by walk_at "x") (by walk_at "x") (by unfold tripD; walk_at "id")) rfl xa_nil)))) (by walk_at "upd") (by rintro _ (⟨_, rfl⟩ | ⟨_, _, _, _, rfl⟩) z <;> cases z) ?_)
  rintro _ (⟨hn, rfl⟩ | ⟨zs, m, hm, W, rfl⟩)
  · have hn : dist L t.2.2.1 u.1 = none := hn
    rw [hm0] at hn
    cases hn
  have W : WayOk L t.2.2.1 u.1 zs := W
  show ∃ cs', Upd _ _ _ (.dat (.list (zs.map .str))) cs' ∧ _
  refine ⟨_, by walk_at "upd", ?_⟩
  have wl := W.len
  have tl : (zs.map PyData.str).drop 1 = zs.tail.map .str := by rw [← List.map_drop, List.drop_one]
  have tlen : zs.tail.length ≤ L.length := by rw [List.length_tail]; omega
  refine xs_cons (x_ret (c := .own ((zs.tail.map fun z => ((z, t.2.2.2 + (dist L t.2.2.1 z).getD 0) : Stop)).map stopD)) ?_ ⟨_, ⟨hk, zs, W, rfl⟩, by rw [List.length_map]; exact tlen, rfl⟩)
  refine (lcg nm (N := N_between) (sc := defScope s_between) (ds := zs.tail.map .str) rfl rfl 5 (fun i => ((zs.tail.take i).map fun z => ((z, t.2.2.2 + (dist L t.2.2.1 z).getD 0) : Stop)).map stopD) rfl (by rw [List.length_map]; omega) ?_ (by decide +kernel) ?_).is (by rw [List.length_map, List.take_length])
  · rw [← tl, ← cutP_from]
    refine xi_list (xe_fr (c := .own _) (xe_slice (l := some 1) (h := none) (by walk_at "x") ?_ trivial))
    show Fw.XE _ _ _ _
    walk_at "x"
  · intro i d hd
    obtain ⟨z, hz0, hz', rfl⟩ := map_get hd
    have hzi : zs[i + 1]? = some z := by
      rw [List.getElem?_tail] at hz0
      exact hz0
    obtain ⟨mz, hmz⟩ := way_all hL W _ _ hzi
    obtain ⟨b, lk⟩ := found_dist B hL hmz
    refine ⟨true, fun B => xts_nil, fun _ => ⟨stopD (z, t.2.2.2 + (dist L t.2.2.1 z).getD 0), fun B => ?_, ?_⟩, fun h => by cases h⟩
    · refine blk nm N_between (defScope s_between) [none, some "trip", none, some "found", none, some "place"] [] rfl rfl (by decide +kernel) fun nmb => ?_
      show XE _ [.dat (.list (L.map rideD)), .dat (tripD t), .dat (tripD u), .dic (foundD F), .dat (.list (zs.map .str)), .dat (.str z)] _ _
      unfold stopD
      rw [hmz]
      refine xe_tup (xd_cons (by walk_at "x") (xd_cons (xe_bin (xe_ix (d := tripD t) (by walk_at "x") (by walk_at "x") (by unfold tripD; walk_at "id")) (xe_ix (d := .tuple [.int mz, .str b]) (xe_dg nmb (kvs := foundD F) (kd := .str z) (xe_ldc (by walk_at "x")) (by walk_at "x") rfl lk) (by walk_at "x") (by walk_at "id")) bd_add) xd_nil))
    · rw [List.take_add_one, hz0]
      simp
end
end K8

set_option maxRecDepth 100000
set_option maxHeartbeats 4000000
namespace K8
open PySem PySem.Spec PyProof.Rows L2 Fw Bus
open Dj (Best dist)
local macro_rules | `(tactic| walk_at "sel") => `(tactic| repeat (first | with_reducible apply Sel.z | apply Sel.s))
local macro_rules | `(tactic| walk_at "upd") => `(tactic| repeat (first | with_reducible apply Upd.z | apply Upd.s))
local macro_rules | `(tactic| walk_at "has") => `(tactic| repeat (first | with_reducible apply Has.z | apply Has.s))
local macro_rules | `(tactic| walk_at "fz") => `(tactic| repeat (first | exact Fz.nil | apply Fz.un | apply Fz.dat | apply Fz.scr | apply Fz.rng | apply Fz.dic | apply Fz.ldc | apply Fz.own | apply Fz.odi | apply Fz.any))
local macro_rules | `(tactic| walk_at "bi") => `(tactic| first | with_reducible exact BI.len | with_reducible exact BI.max | with_reducible exact BI.min | with_reducible exact BI.all | with_reducible exact BI.any | with_reducible exact BI.sorted | with_reducible exact BI.sum | with_reducible exact BI.abs)
local macro_rules | `(tactic| walk_at "bt") => `(tactic| first | with_reducible exact BT.list | with_reducible exact BT.tuple | with_reducible exact BT.str | with_reducible exact BT.int | with_reducible exact BT.bool | with_reducible exact BT.dict)
local macro_rules | `(tactic| walk_at "bd") => `(tactic| first | exact bd_add | exact bd_sub | (apply bd_mod <;> try decide) | (apply bd_fdiv <;> try decide) | apply bd_adds | apply bd_muls | apply bd_mul | apply bd_cat)
local macro_rules | `(tactic| walk_at "cd") => `(tactic| first | exact cd_lt | exact cd_le | exact cd_gt | exact cd_ge | exact cd_eqi | exact cd_nei | exact cd_eqs | exact cd_nes | exact cd_inSign | apply cd_eqD (Nm.hu (by assumption)) | apply cd_neD (Nm.hu (by assumption)) | apply cd_inD (Nm.hu5 (by assumption)) | apply cd_notInD (Nm.hu5 (by assumption)))
local macro_rules | `(tactic| walk_at "id") => `(tactic| first | (apply id_l <;> try first | assumption | rfl) | (apply id_t <;> try first | assumption | rfl) | (apply id_s <;> try first | assumption | (show Str.length _ ≤ sizeLine; decide +kernel)))
local macro_rules | `(tactic| walk_at "cl") => `(tactic| first | exact cl_lenL | exact cl_lenT | apply cl_lenS | exact cl_list | exact cl_max2 (Nm.calm (by assumption)) | exact cl_all (Nm.calm (by assumption)))
local macro_rules | `(tactic| walk_at "x") => `(tactic| first
  | exact xe_int | exact xe_str | exact xe_bl | exact xe_non
  | (apply ve; · assumption
     · walk_at "sel")
  | (apply ve'; · assumption
     · walk_at "sel"
     all_goals (first | rfl | (intro z; cases z; done)))
  | (apply gle_int; · assumption
     · walk_at "has"
     · with_reducible assumption)
  | (apply gle_str; · assumption
     · walk_at "has"
     · with_reducible assumption)
  | (show Nm _ _ _ _ _ _ _ _ _ _; assumption)
  | (apply xe_bin <;> try walk_at "x") | walk_at "bd"
  | (apply xt_cmp <;> try walk_at "x") | (apply xe_cmp <;> try walk_at "x") | walk_at "cd"
  | (show behindInMarks _ _ = false; first | exact nomark _ | rfl)
  | (apply xt_not <;> try walk_at "x") | (apply xe_not <;> try walk_at "x")
  | (apply xe_unop <;> try walk_at "x") | exact ud_neg
  | (apply xt_pw; apply xw_and <;> try walk_at "x") | (apply xt_pw; apply xw_or <;> try walk_at "x")
  | (apply xw_and <;> try walk_at "x") | (apply xw_or <;> try walk_at "x") | (apply xw_and1 <;> try walk_at "x") | (apply xw_or1 <;> try walk_at "x")
  | (apply xe_and <;> try walk_at "x") | (apply xe_or <;> try walk_at "x") | (apply xe_one <;> try walk_at "x")
  | (apply cisi; · assumption
     · walk_at "bt"
     · walk_at "has"
     · walk_at "has"
     · walk_at "has"
     · walk_at "has"
     all_goals try walk_at "x")
  | (apply cbi; · assumption
     · walk_at "bi"
     · walk_at "has"
     · walk_at "has"
     all_goals try walk_at "x")
  | (apply cty; · assumption
     · walk_at "bt"
     · walk_at "has"
     · walk_at "has"
     all_goals walk_at "x")
  | (apply xe_fr (c := .own _)
     (apply cty; · assumption
      · walk_at "bt"
      · walk_at "has"
      · walk_at "has"
      all_goals walk_at "x"))
  | (apply cty; · assumption
     · walk_at "bt"
     · walk_at "has"
     · walk_at "has"
     all_goals try walk_at "x")
  | walk_at "cl"
  | exact xd_nil | (apply xd_cons <;> try walk_at "x") | exact xa_nil | (apply xa_c <;> try walk_at "x")
  | (apply xe_list <;> try walk_at "x") | (apply xe_tup <;> try walk_at "x")
  | (apply xe_ix <;> try walk_at "x") | walk_at "id"
  | (show PlainIx _; exact fun _ _ => rfl)
  | (apply xt_chainI op_le op_le <;> try walk_at "x") | (apply xt_chainI op_le op_lt <;> try walk_at "x") | (apply xe_chainI op_le op_le <;> try walk_at "x") | (apply xe_chainI op_le op_lt <;> try walk_at "x")
  | (apply xt_val <;> try walk_at "x")
  | (apply xe_fr (c := .own _) <;> try walk_at "x")
  | (show List.length _ ≤ 100000; exact Nat.le_of_ble_eq_true rfl)
  | (show lastMarks _ _ = false; with_unfolding_all rfl)
  | (show _ = _; rfl)
  | (intro _; walk_at "x"))
structure ANum where
  d : PyData
  ts : List Trip
/-- is_number -/
def isNum (d : PyData) (n : Nat) : Bool := isWhole d 0 ((n : Int) - 1)
abbrev cIsNum (K : PySem.W.Frag) : Sp := Con K (fun a : ANum => [.dat a.d, .dat (.list (a.ts.map tripD))]) (fun a c => c = .dat (.bool (isNum a.d a.ts.length)))
structure ALookN where
  i : Nat
  ts : List Trip
  h : i < ts.length
abbrev cLookN (K : PySem.W.Frag) : Sp := Con K (fun a : ALookN => [.dat (.int a.i), .dat (.list (a.ts.map tripD))]) (fun _ c => c = .dat .none)
section
variable {P : Program} {w : World} {K : PySem.W.Frag} {mg : Str → Option Value} {base : Heap}
theorem ok_is_number {f : Addr} {fd : FuncData} {k : Nat} (F : Fun K "is_number" "is_number" s_is_number f fd) (hb : Bl mg) {j : Nat} (hj : j ≤ k) (CW : Cal P w K mg base "is_whole" j (cIsWhole K)) : FnOk P w K mg base CX0 (k + 1) f fd ["thing", "trips"] (cIsNum K) := by
  refine fn_con F sc_is_number (fun _ => rfl) fun cdv A outer s H E hr a => ?_
  obtain ⟨nm, nd⟩ := nm_is_number (P := P) (w := w) (K := K) (mg := mg) (base := base) (outer := outer) (H := H) (E := E) hb hr
  obtain ⟨d, ts⟩ := a
  show XSs _ [.dat d, .dat (.list (ts.map tripD))] _ _
  refine xs_cons (x_ret (calE nm CW hj (by walk_at "has") (d, 0, (ts.length : Int) - 1) (xa_c (by walk_at "x") rfl (xa_c (by walk_at "x") rfl (xa_c (XE.is (by walk_at "x") (by rw [List.length_map])) rfl xa_nil)))) rfl)
theorem ok_look_at_number {f : Addr} {fd : FuncData} {k : Nat} (F : Fun K "look_at_number" "look_at_number" s_look_at_number f fd) (hb : Bl mg) {j : Nat} (hj : j ≤ k) (CN : Cal P w K mg base "is_number" j (cIsNum K)) : FnOk P w K mg base CX0 (k + 1) f fd ["thing", "trips"] (cLookN K) := by
  refine fn_con F sc_look_at_number (fun _ => rfl) fun cdv A outer s H E hr a => ?_
  obtain ⟨nm, nd⟩ := nm_look_at_number (P := P) (w := w) (K := K) (mg := mg) (base := base) (outer := outer) (H := H) (E := E) hb hr
  obtain ⟨i, ts, h⟩ := a
  show XSs _ [.dat (.int i), .dat (.list (ts.map tripD))] _ _
  have hi : isNum (.int i) ts.length = true := by
    simp only [isNum, isWhole, Bool.and_eq_true, decide_eq_true_eq]
    omega
  refine xs_cons (if_ (kk := false) (by walk_at "fz") (XT.is (xt_not (xt_val (calE nm CN hj (by walk_at "has") ⟨.int i, ts⟩ (by walk_at "x")))) (by rw [hi]; rfl)) (fun h => by cases h) fun _ => xs_nil (xs_nil rfl))
end
end K8

set_option maxRecDepth 100000
set_option maxHeartbeats 4000000
namespace K8
open PySem PySem.Spec PyProof.Rows L2 Fw Bus
open Dj (Best dist)
local macro_rules | `(tactic| walk_at "sel") => `(tactic| repeat (first | with_reducible apply Sel.z | apply Sel.s))
local macro_rules | `(tactic| walk_at "upd") => `(tactic| repeat (first | with_reducible apply Upd.z | apply Upd.s))
local macro_rules | `(tactic| walk_at "has") => `(tactic| repeat (first | with_reducible apply Has.z | apply Has.s))
local macro_rules | `(tactic| walk_at "fz") => `(tactic| repeat (first | exact Fz.nil | apply Fz.un | apply Fz.dat | apply Fz.scr | apply Fz.rng | apply Fz.dic | apply Fz.ldc | apply Fz.own | apply Fz.odi | apply Fz.any))
local macro_rules | `(tactic| walk_at "bi") => `(tactic| first | with_reducible exact BI.len | with_reducible exact BI.max | with_reducible exact BI.min | with_reducible exact BI.all | with_reducible exact BI.any | with_reducible exact BI.sorted | with_reducible exact BI.sum | with_reducible exact BI.abs)
local macro_rules | `(tactic| walk_at "bt") => `(tactic| first | with_reducible exact BT.list | with_reducible exact BT.tuple | with_reducible exact BT.str | with_reducible exact BT.int | with_reducible exact BT.bool | with_reducible exact BT.dict)
local macro_rules | `(tactic| walk_at "bd") => `(tactic| first | exact bd_add | exact bd_sub | (apply bd_mod <;> try decide) | (apply bd_fdiv <;> try decide) | apply bd_adds | apply bd_muls | apply bd_mul | apply bd_cat)
local macro_rules | `(tactic| walk_at "cd") => `(tactic| first | exact cd_lt | exact cd_le | exact cd_gt | exact cd_ge | exact cd_eqi | exact cd_nei | exact cd_eqs | exact cd_nes | exact cd_inSign | apply cd_eqD (Nm.hu (by assumption)) | apply cd_neD (Nm.hu (by assumption)) | apply cd_inD (Nm.hu5 (by assumption)) | apply cd_notInD (Nm.hu5 (by assumption)))
local macro_rules | `(tactic| walk_at "id") => `(tactic| first | (apply id_l <;> try first | assumption | rfl) | (apply id_t <;> try first | assumption | rfl) | (apply id_s <;> try first | assumption | (show Str.length _ ≤ sizeLine; decide +kernel)))
local macro_rules | `(tactic| walk_at "cl") => `(tactic| first | exact cl_lenL | exact cl_lenT | apply cl_lenS | exact cl_list | exact cl_max2 (Nm.calm (by assumption)) | exact cl_all (Nm.calm (by assumption)))
local macro_rules | `(tactic| walk_at "x") => `(tactic| first
  | exact xe_int | exact xe_str | exact xe_bl | exact xe_non
  | (apply ve; · assumption
     · walk_at "sel")
  | (apply ve'; · assumption
     · walk_at "sel"
     all_goals (first | rfl | (intro z; cases z; done)))
  | (apply gle_int; · assumption
     · walk_at "has"
     · with_reducible assumption)
  | (apply gle_str; · assumption
     · walk_at "has"
     · with_reducible assumption)
  | (show Nm _ _ _ _ _ _ _ _ _ _; assumption)
  | (apply xe_bin <;> try walk_at "x") | walk_at "bd"
  | (apply xt_cmp <;> try walk_at "x") | (apply xe_cmp <;> try walk_at "x") | walk_at "cd"
  | (show behindInMarks _ _ = false; first | exact nomark _ | rfl)
  | (apply xt_not <;> try walk_at "x") | (apply xe_not <;> try walk_at "x")
  | (apply xe_unop <;> try walk_at "x") | exact ud_neg
  | (apply xt_pw; apply xw_and <;> try walk_at "x") | (apply xt_pw; apply xw_or <;> try walk_at "x")
  | (apply xw_and <;> try walk_at "x") | (apply xw_or <;> try walk_at "x") | (apply xw_and1 <;> try walk_at "x") | (apply xw_or1 <;> try walk_at "x")
  | (apply xe_and <;> try walk_at "x") | (apply xe_or <;> try walk_at "x") | (apply xe_one <;> try walk_at "x")
  | (apply cisi; · assumption
     · walk_at "bt"
     · walk_at "has"
     · walk_at "has"
     · walk_at "has"
     · walk_at "has"
     all_goals try walk_at "x")
  | (apply cbi; · assumption
     · walk_at "bi"
     · walk_at "has"
     · walk_at "has"
     all_goals try walk_at "x")
  | (apply cty; · assumption
     · walk_at "bt"
     · walk_at "has"
     · walk_at "has"
     all_goals walk_at "x")
  | (apply xe_fr (c := .own _)
     (apply cty; · assumption
      · walk_at "bt"
      · walk_at "has"
      · walk_at "has"
      all_goals walk_at "x"))
  | (apply cty; · assumption
     · walk_at "bt"
     · walk_at "has"
     · walk_at "has"
     all_goals try walk_at "x")
  | walk_at "cl"
  | exact xd_nil | (apply xd_cons <;> try walk_at "x") | exact xa_nil | (apply xa_c <;> try walk_at "x")
  | (apply xe_list <;> try walk_at "x") | (apply xe_tup <;> try walk_at "x")
  | (apply xe_ix <;> try walk_at "x") | walk_at "id"
  | (show PlainIx _; exact fun _ _ => rfl)
  | (apply xt_chainI op_le op_le <;> try walk_at "x") | (apply xt_chainI op_le op_lt <;> try walk_at "x") | (apply xe_chainI op_le op_le <;> try walk_at "x") | (apply xe_chainI op_le op_lt <;> try walk_at "x")
  | (apply xt_val <;> try walk_at "x")
  | (apply xe_fr (c := .own _) <;> try walk_at "x")
  | (show List.length _ ≤ 100000; exact Nat.le_of_ble_eq_true rfl)
  | (show lastMarks _ _ = false; with_unfolding_all rfl)
  | (show _ = _; rfl)
  | (intro _; walk_at "x"))
def endsOf (t : Trip) : List Stop := [(t.1, t.2.1), (t.2.2.1, t.2.2.2)]
/-- the stops of a day, of its parts -/
def stopsN (f : Nat → List Stop) (done : List Trip) : Nat → List Stop
  | 0 => []
  | n + 1 => stopsN f done n ++ (f n ++ ((done[n]?).elim [] endsOf))
/-- f tells the stops between -/
def PartsOk (L : List Ride) (done : List Trip) (f : Nat → List Stop) (n : Nat) : Prop := f 0 = [] ∧ ∀ (i : Nat) t u, i + 1 < n → done[i]? = some t → done[i + 1]? = some u → BetwOk L t u (f (i + 1)) ∧ (f (i + 1)).length ≤ L.length
theorem stopsN_congr {f g : Nat → List Stop} {done : List Trip} : ∀ {n : Nat}, (∀ i < n, f i = g i) → stopsN f done n = stopsN g done n
  | 0, _ => rfl
  | n + 1, h => by
    unfold stopsN
    rw [stopsN_congr fun i hi => h i (Nat.lt_succ_of_lt hi), h n (Nat.lt_succ_self n)]
theorem stopsN_len {L : List Ride} {done : List Trip} {f : Nat → List Stop} {n : Nat} (h : PartsOk L done f n) : ∀ {m : Nat}, m ≤ n → m ≤ done.length → (stopsN f done m).length ≤ m * (L.length + 2)
  | 0, _, _ => by simp [stopsN]
  | m + 1, hm, hd => by
    have ih := stopsN_len h (m := m) (by omega) (by omega)
    unfold stopsN
    have e : done[m]? = some done[m] := List.getElem?_eq_getElem (by omega)
    rw [e, List.length_append, List.length_append]
    show _ + (_ + 2) ≤ _
    have hf : (f m).length ≤ L.length := by
      cases m with
      | zero => rw [h.1]; exact Nat.zero_le _
      | succ m => exact (h.2 m _ _ (by omega) (List.getElem?_eq_getElem (by omega)) e).2
    rw [Nat.add_mul, Nat.one_mul]
    omega
structure ADay where
  b : ABus
  row : List Nat
  done : List Trip
  hd : done.length = row.length
  hr : ∀ (i n : Nat), row[i]? = some n → b.ts[n]? = done[i]?
  hn : ∀ n ∈ row, n < b.ts.length
  l1 : b.rs.length ≤ 100
  l2 : b.ts.length ≤ 100
  l3 : row.length ≤ 100
/-- one of them can't be done behind the one ahead -/
def LateIn (L : List Ride) (done : List Trip) : Prop := ∃ (i : Nat) (t u : Trip), done[i]? = some t ∧ done[i + 1]? = some u ∧ inT L t u = false
abbrev cDay (K : PySem.W.Frag) (CN : Addr) : Sp := ConX K (fun a : ADay => a.b.cells ++ [.dat (.list (a.row.map fun n => .int (n : Nat)))]) (fun a c => ∃ f, PartsOk (laid a.b.rs a.b.ts) a.done f a.done.length ∧ c = .own ((stopsN f a.done a.done.length).map stopD)) (fun a v => LateIn (laid a.b.rs a.b.ts) a.done ∧ v = .ref CN)
section
variable {P : Program} {w : World} {K : PySem.W.Frag} {mg : Str → Option Value} {base : Heap}
theorem ok_day {f : Addr} {fd : FuncData} {k : Nat} (F : Fun K "day" "day" s_day f fd) (hb : Bl mg) {CN : Addr} {j : Nat} (hj : j ≤ k) (CL : Cal P w K mg base "look_at_lists" j (cLook K)) (CN' : Cal P w K mg base "look_at_number" j (cLookN K)) (CR : Cal P w K mg base "laid_roads" j (cRoads K)) (CB : CalX P w K mg base "between" j (cBetween K CN)) :
    FnOk P w K mg base (L2.CX P w) (k + 1) f fd ["rides", "trips", "row"] (cDay K CN) := by
  refine fnX_con F sc_day (fun _ => rfl) fun cdv A outer s H E hr tk a => ?_
  obtain ⟨nm, nd⟩ := nmx_day (P := P) (w := w) (K := K) (mg := mg) (base := base) (outer := outer) (H := H) (E := E) hb hr
  obtain ⟨b, row, done, hd, hrow, hn, l1, l2, l3⟩ := a
  have hlen := laid_len b.rs b.ts
  have hpos := laid_pos b.hr b.ht
  show XSs _ [.dat (.list (b.rs.map rideD)), .dat (.list (b.ts.map tripD)), .dat (.list (row.map fun n => .int (n : Nat))), .un, .un, .un, .un, .un, .un, .un, .un, .un] _ { nx := fun _ => _, rt := fun c => ∃ f, PartsOk (laid b.rs b.ts) done f done.length ∧ c = .own ((stopsN f done done.length).map stopD), ex := fun v => LateIn (laid b.rs b.ts) done ∧ v = .ref CN, E := _ }
  refine xs_cons (x_exprP (cal nm CL hj (by walk_at "has") b (by walk_at "x")) fun _ => ?_)
  refine xs_cons (for_ nm nd (ds := row.map fun n => .int (n : Nat)) (fun _ c => ∃ x, c = [.dat (.list (b.rs.map rideD)), .dat (.list (b.ts.map tripD)), .dat (.list (row.map fun n => .int (n : Nat))), x, .un, .un, .un, .un, .un, .un, .un, .un]) (xi_list (by walk_at "x")) ⟨_, rfl⟩ ?_ ?_)
  · rintro i d _ hd2 ⟨x, rfl⟩
    obtain ⟨n, hn0, hn', rfl⟩ := map_get hd2
    refine gnm nm nd (by walk_at "upd") ?_
    exact xs_cons (x_exprP (cal nm CN' hj (by walk_at "has") ⟨n, b.ts, hn n hn'⟩ (by walk_at "x")) fun _ => xs_nil ⟨_, rfl⟩)
  rintro _ ⟨x, rfl⟩
  refine xs_cons (set nm nd (c := .dat (.list ((laid b.rs b.ts).map rideD))) (xe_fr (c := .own _) (calE nm CR hj (by walk_at "has") b (by walk_at "x"))) (by walk_at "upd") ?_)
  refine xs_cons (setLcg nm nd (N := N_day) (sc := defScope s_day) rfl rfl 3 (ds := row.map fun n => .int (n : Nat)) (fun i => (done.take i).map tripD) rfl (by rw [List.length_map]; omega) (xi_list (by walk_at "x")) (by decide +kernel) (by walk_at "upd") (show (defScope s_day).names.lookup ("done" : Str) = some NameKind.local by decide +kernel) (sw_true rfl rfl rfl (by decide +kernel)) ?_ ?_)
  · intro i d hd2
    obtain ⟨n, hn0, hn', rfl⟩ := map_get hd2
    have hlt := hn n hn'
    have e := hrow i n hn0
    have eb : b.ts[n]? = some b.ts[n] := List.getElem?_eq_getElem hlt
    rw [eb] at e
    have ai : atI (b.ts.map tripD) (n : Int) = some (tripD b.ts[n]) := atI_nat' (n := n) rfl (by rw [List.getElem?_map, eb]; rfl)
    refine ⟨true, fun B => xts_nil, fun _ => ⟨tripD b.ts[n], fun B => ?_, ?_⟩, fun h => by cases h⟩
    · refine blk nm N_day (defScope s_day) [none, some "trips", none, some "number", none, none, none, none, none, none, none, none] [] rfl rfl (by decide +kernel) fun nmb => ?_
      show XE _ [.dat (.list (b.rs.map rideD)), .dat (.list (b.ts.map tripD)), .dat (.list (row.map fun n => .int (n : Nat))), .dat (.int n), .dat (.list ((laid b.rs b.ts).map rideD)), .un, .un, .un, .un, .un, .un, .un] _ _
      exact xe_ix (d := .list (b.ts.map tripD)) (by walk_at "x") (by walk_at "x") (id_l ai)
    · rw [List.take_add_one, ← e, List.map_append]
      rfl
  rw [List.length_map, ← hd, List.take_length]
  refine xs_seal nm (x := "done") (by walk_at "sel") (by walk_at "upd") ?_
  refine xs_cons (set nm nd (c := .own []) (by walk_at "x") (by walk_at "upd") ?_)
  refine xs_cons (for_ nm nd (ds := enumD (done.map tripD)) (fun i c => ∃ f a1 a2 a3 a4 a5, PartsOk (laid b.rs b.ts) done f i ∧ c = [.dat (.list (b.rs.map rideD)), .dat (.list (b.ts.map tripD)), .dat (.list (row.map fun n => .int (n : Nat))), x, .dat (.list ((laid b.rs b.ts).map rideD)), .dat (.list (done.map tripD)), .own ((stopsN f done i).map stopD), a1, a2, a3, a4, a5]) (enu nm (by walk_at "has") (by walk_at "has") (by walk_at "x")) ⟨fun _ => [], _, _, _, _, _, ⟨rfl, fun i t u h => by omega⟩, rfl⟩ ?_ ?_)
  · rintro i d _ hd2 ⟨fn, a1, a2, a3, a4, a5, hp, rfl⟩
    obtain ⟨e, he, rfl⟩ := enumD_inv hd2
    obtain ⟨t, ht0, ht', rfl⟩ := map_get he
    have hi : i < done.length := (List.getElem?_eq_some_iff.mp ht0).1
    have ai : atI (done.map tripD) (i : Int) = some (tripD t) := atI_nat' (n := i) rfl (by rw [List.getElem?_map, ht0]; rfl)
    obtain ⟨s1, b1, g1, e1⟩ := t
    show XG _ _ _ (.tuple [.int (i : Nat), .tuple [.str s1, .int b1, .str g1, .int e1]]) _
    refine xg_tup nm.calm (xgs_cons (gnm nm nd (by walk_at "upd") (xgs_cons (xg_tup nm.calm (xgs_cons (gnm nm nd (by walk_at "upd") (xgs_cons (gnm nm nd (by walk_at "upd") (xgs_cons (gnm nm nd (by walk_at "upd") (xgs_cons (gnm nm nd (by walk_at "upd") (xgs_nil (xgs_nil ?_))))))))))))))
    refine xs_cut (fun c => ∃ ft : List Stop, (i = 0 → ft = []) ∧ (∀ t0, 0 < i → done[i - 1]? = some t0 → BetwOk (laid b.rs b.ts) t0 (s1, b1, g1, e1) ft) ∧ ft.length ≤ (laid b.rs b.ts).length ∧ c = [.dat (.list (b.rs.map rideD)), .dat (.list (b.ts.map tripD)), .dat (.list (row.map fun n => .int (n : Nat))), x, .dat (.list ((laid b.rs b.ts).map rideD)), .dat (.list (done.map tripD)), .own ((stopsN fn done i ++ ft).map stopD), .dat (.int (i : Nat)), .dat (.str s1), .dat (.int b1), .dat (.str g1), .dat (.int e1)]) (if_ (kk := decide (0 < (i : Int))) (by walk_at "fz") (by walk_at "x") (fun hk => ?_) fun hk => ?_) ?_
    · have hi0 : 0 < i := by have := of_decide_eq_true hk; omega
      obtain ⟨t0, ht00⟩ : ∃ t0, done[i - 1]? = some t0 := ⟨done[i - 1], List.getElem?_eq_getElem (by omega)⟩
      have a0 : atI (done.map tripD) ((i : Int) - 1) = some (tripD t0) := atI_nat' (n := i - 1) (by omega) (by rw [List.getElem?_map, ht00]; rfl)
      refine xs_cons (x_extX nm (ds := (stopsN fn done i).map stopD) (by walk_at "sel") (calX nm tk CB hj (by walk_at "has") ⟨laid b.rs b.ts, t0, (s1, b1, g1, e1), hpos, by omega⟩ (xa_c (by walk_at "x") rfl (xa_c (xe_ix (d := .list (done.map tripD)) (by walk_at "x") (by walk_at "x") (id_l a0)) rfl (xa_c (xe_ix (d := .list (done.map tripD)) (by walk_at "x") (by walk_at "x") (id_l ai)) rfl xa_nil)))) ?_ ?_)
      · rintro v ⟨h1, h2⟩
        exact ⟨⟨i - 1, t0, (s1, b1, g1, e1), ht00, by rw [show i - 1 + 1 = i by omega]; exact ht0, h1⟩, h2⟩
      · rintro _ ⟨ss, hbt, hsl, rfl⟩
        have hsl : ss.length ≤ (laid b.rs b.ts).length := hsl
        refine ⟨_, _, rfl, ?_, by walk_at "upd", xs_nil ⟨ss, fun z => by omega, fun t' _ ht' => ?_, hsl, by rw [List.map_append]⟩⟩
        · have := stopsN_len hp (Nat.le_refl _) (by omega)
          have h2 : i * ((laid b.rs b.ts).length + 2) ≤ 100 * 202 := Nat.mul_le_mul (by omega) (by omega)
          rw [List.length_map, List.length_map]
          omega
        · rw [ht00] at ht'
          cases ht'
          exact hbt
    · have hi0 : i = 0 := by have := of_decide_eq_false hk; omega
      exact xs_nil ⟨[], fun _ => rfl, fun _ h => by omega, Nat.zero_le _, by rw [List.append_nil]⟩
    rintro _ ⟨ft, hf0, hf1, hfl, rfl⟩
    have hb1 := stopsN_len hp (Nat.le_refl _) (by omega)
    have hb2 : i * ((laid b.rs b.ts).length + 2) ≤ 100 * 202 := Nat.mul_le_mul (by omega) (by omega)
    refine xs_cons (app nm (d := stopD (s1, b1)) (by walk_at "sel") (by walk_at "upd") (by unfold stopD; walk_at "x") (by rw [List.length_map, List.length_append]; omega) ?_)
    refine xs_cons (app nm (d := stopD (g1, e1)) (by walk_at "sel") (by walk_at "upd") (by unfold stopD; walk_at "x") (by rw [List.length_append, List.length_map, List.length_append, List.length_singleton]; omega) ?_)
    refine xs_nil ⟨fun l => if l = i then ft else fn l, .dat (.int (i : Nat)), .dat (.str s1), .dat (.int b1), .dat (.str g1), .dat (.int e1), ⟨?_, fun l t u hl h1 h2 => ?_⟩, ?_⟩
    · show (if 0 = i then ft else fn 0) = []
      split
      · rename_i z
        exact hf0 z.symm
      · exact hp.1
    · show BetwOk _ t u (if l + 1 = i then ft else fn (l + 1)) ∧ (if l + 1 = i then ft else fn (l + 1)).length ≤ _
      split
      · rename_i z
        rw [z, ht0] at h2
        cases h2
        exact ⟨hf1 t (by omega) (by rw [show i - 1 = l by omega]; exact h1), hfl⟩
      · exact hp.2 l t u (by omega) h1 h2
    · have e1 : stopsN (fun l => if l = i then ft else fn l) done (i + 1) = stopsN fn done i ++ (ft ++ [(s1, b1), (g1, e1)]) := by
        show stopsN (fun l => if l = i then ft else fn l) done i ++ ((if i = i then ft else fn i) ++ (done[i]?).elim [] endsOf) = _
        rw [if_pos rfl, ht0, stopsN_congr (g := fn) fun l hl => if_neg (by omega)]
        rfl
      rw [e1, List.map_append, List.map_append, List.map_append, List.append_assoc, List.append_assoc]
      rfl
  · rintro _ ⟨fn, a1, a2, a3, a4, a5, hp, rfl⟩
    rw [enumD_len, List.length_map] at hp ⊢
    exact xs_cons (retN nm (c := .own ((stopsN fn done done.length).map stopD)) (by walk_at "sel") ⟨fn, hp, rfl⟩)
end
end K8

set_option maxRecDepth 100000
set_option maxHeartbeats 4000000
namespace K8
open PySem PySem.Spec PyProof.Rows L2 Fw Bus
open Dj (Best dist)
local macro_rules | `(tactic| walk_at "sel") => `(tactic| repeat (first | with_reducible apply Sel.z | apply Sel.s))
local macro_rules | `(tactic| walk_at "upd") => `(tactic| repeat (first | with_reducible apply Upd.z | apply Upd.s))
local macro_rules | `(tactic| walk_at "has") => `(tactic| repeat (first | with_reducible apply Has.z | apply Has.s))
local macro_rules | `(tactic| walk_at "fz") => `(tactic| repeat (first | exact Fz.nil | apply Fz.un | apply Fz.dat | apply Fz.scr | apply Fz.rng | apply Fz.dic | apply Fz.ldc | apply Fz.own | apply Fz.odi | apply Fz.any))
local macro_rules | `(tactic| walk_at "bi") => `(tactic| first | with_reducible exact BI.len | with_reducible exact BI.max | with_reducible exact BI.min | with_reducible exact BI.all | with_reducible exact BI.any | with_reducible exact BI.sorted | with_reducible exact BI.sum | with_reducible exact BI.abs)
local macro_rules | `(tactic| walk_at "bt") => `(tactic| first | with_reducible exact BT.list | with_reducible exact BT.tuple | with_reducible exact BT.str | with_reducible exact BT.int | with_reducible exact BT.bool | with_reducible exact BT.dict)
local macro_rules | `(tactic| walk_at "bd") => `(tactic| first | exact bd_add | exact bd_sub | (apply bd_mod <;> try decide) | (apply bd_fdiv <;> try decide) | apply bd_adds | apply bd_muls | apply bd_mul | apply bd_cat)
local macro_rules | `(tactic| walk_at "cd") => `(tactic| first | exact cd_lt | exact cd_le | exact cd_gt | exact cd_ge | exact cd_eqi | exact cd_nei | exact cd_eqs | exact cd_nes | exact cd_inSign | apply cd_eqD (Nm.hu (by assumption)) | apply cd_neD (Nm.hu (by assumption)) | apply cd_inD (Nm.hu5 (by assumption)) | apply cd_notInD (Nm.hu5 (by assumption)))
local macro_rules | `(tactic| walk_at "id") => `(tactic| first | (apply id_l <;> try first | assumption | rfl) | (apply id_t <;> try first | assumption | rfl) | (apply id_s <;> try first | assumption | (show Str.length _ ≤ sizeLine; decide +kernel)))
local macro_rules | `(tactic| walk_at "cl") => `(tactic| first | exact cl_lenL | exact cl_lenT | apply cl_lenS | exact cl_list | exact cl_max2 (Nm.calm (by assumption)) | exact cl_all (Nm.calm (by assumption)))
local macro_rules | `(tactic| walk_at "x") => `(tactic| first
  | exact xe_int | exact xe_str | exact xe_bl | exact xe_non
  | (apply ve; · assumption
     · walk_at "sel")
  | (apply ve'; · assumption
     · walk_at "sel"
     all_goals (first | rfl | (intro z; cases z; done)))
  | (apply gle_int; · assumption
     · walk_at "has"
     · with_reducible assumption)
  | (apply gle_str; · assumption
     · walk_at "has"
     · with_reducible assumption)
  | (show Nm _ _ _ _ _ _ _ _ _ _; assumption)
  | (apply xe_bin <;> try walk_at "x") | walk_at "bd"
  | (apply xt_cmp <;> try walk_at "x") | (apply xe_cmp <;> try walk_at "x") | walk_at "cd"
  | (show behindInMarks _ _ = false; first | exact nomark _ | rfl)
  | (apply xt_not <;> try walk_at "x") | (apply xe_not <;> try walk_at "x")
  | (apply xe_unop <;> try walk_at "x") | exact ud_neg
  | (apply xt_pw; apply xw_and <;> try walk_at "x") | (apply xt_pw; apply xw_or <;> try walk_at "x")
  | (apply xw_and <;> try walk_at "x") | (apply xw_or <;> try walk_at "x") | (apply xw_and1 <;> try walk_at "x") | (apply xw_or1 <;> try walk_at "x")
  | (apply xe_and <;> try walk_at "x") | (apply xe_or <;> try walk_at "x") | (apply xe_one <;> try walk_at "x")
  | (apply cisi; · assumption
     · walk_at "bt"
     · walk_at "has"
     · walk_at "has"
     · walk_at "has"
     · walk_at "has"
     all_goals try walk_at "x")
  | (apply cbi; · assumption
     · walk_at "bi"
     · walk_at "has"
     · walk_at "has"
     all_goals try walk_at "x")
  | (apply cty; · assumption
     · walk_at "bt"
     · walk_at "has"
     · walk_at "has"
     all_goals walk_at "x")
  | (apply xe_fr (c := .own _)
     (apply cty; · assumption
      · walk_at "bt"
      · walk_at "has"
      · walk_at "has"
      all_goals walk_at "x"))
  | (apply cty; · assumption
     · walk_at "bt"
     · walk_at "has"
     · walk_at "has"
     all_goals try walk_at "x")
  | walk_at "cl"
  | exact xd_nil | (apply xd_cons <;> try walk_at "x") | exact xa_nil | (apply xa_c <;> try walk_at "x")
  | (apply xe_list <;> try walk_at "x") | (apply xe_tup <;> try walk_at "x")
  | (apply xe_ix <;> try walk_at "x") | walk_at "id"
  | (show PlainIx _; exact fun _ _ => rfl)
  | (apply xt_chainI op_le op_le <;> try walk_at "x") | (apply xt_chainI op_le op_lt <;> try walk_at "x") | (apply xe_chainI op_le op_le <;> try walk_at "x") | (apply xe_chainI op_le op_lt <;> try walk_at "x")
  | (apply xt_val <;> try walk_at "x")
  | (apply xe_fr (c := .own _) <;> try walk_at "x")
  | (show List.length _ ≤ 100000; exact Nat.le_of_ble_eq_true rfl)
  | (show lastMarks _ _ = false; with_unfolding_all rfl)
  | (show _ = _; rfl)
  | (intro _; walk_at "x"))
structure ACell where
  ns : List Int
  k : Int
  h : 0 ≤ k
abbrev cWhole (K : PySem.W.Frag) : Sp := Con K (fun d : PyData => [.dat d]) (fun d c => c = .dat (.bool (isT d "int" && !isT d "bool")))
abbrev cCell (K : PySem.W.Frag) : Sp := Con K (fun a : ACell => [.scr a.ns, .dat (.int a.k)]) (fun a c => c = .dat (.int (cellAt a.ns a.k)))
structure ANames where
  c : Int
  n : Nat
  h : n ≤ 12
abbrev cNames (K : PySem.W.Frag) : Sp := Con K (fun a : ANames => [.dat (.int a.c), .dat (.int a.n)]) (fun a c => ∃ zs, OkNames zs a.n ∧ c = .own (zs.map .str))
structure AMake where
  ns : List Int
  p : Int
  hp : 0 ≤ p
  zs : List Str
  nz : Nat
  hz : OkNames zs nz
  h1 : 1 ≤ nz
  n : Nat
  hn : n ≤ 60
abbrev AMake.cells (a : AMake) : List Cell := [.scr a.ns, .dat (.int a.p), .dat (.list (a.zs.map .str)), .dat (.int a.n)]
abbrev cMkRides (K : PySem.W.Frag) : Sp := Con K AMake.cells (fun a c => ∃ rs : List Ride, rs.length ≤ a.n ∧ (∀ r ∈ rs, OkR r) ∧ c = .own (rs.map rideD))
abbrev cMkTrips (K : PySem.W.Frag) : Sp := Con K AMake.cells (fun a c => ∃ ts : List Trip, ts.length ≤ a.n ∧ (∀ t ∈ ts, OkT t) ∧ c = .own (ts.map tripD))
section
variable {P : Program} {w : World} {K : PySem.W.Frag} {mg : Str → Option Value} {base : Heap}
theorem ok__law_whole {f : Addr} {fd : FuncData} {k : Nat} (F : Fun K "_law_whole" "_law_whole" s__law_whole f fd) (hb : Bl mg) : FnOk P w K mg base CX0 (k + 1) f fd ["_law_found"] (cWhole K) := by
  refine fn_con F sc__law_whole (fun _ => rfl) fun cdv A outer s H E hr d => ?_
  obtain ⟨nm, nd⟩ := nm__law_whole (P := P) (w := w) (K := K) (mg := mg) (base := base) (outer := outer) (H := H) (E := E) hb hr
  show XSs _ [.dat d] _ _
  exact xs_cons (x_ret (by walk_at "x") rfl)
theorem ok__law_cell_at {f : Addr} {fd : FuncData} {k : Nat} (F : Fun K "_law_cell_at" "_law_cell_at" s__law_cell_at f fd) (hb : Bl mg) : FnOk P w K mg base CX0 (k + 1) f fd ["_law_script", "_law_k"] (cCell K) := by
  refine fn_con F sc__law_cell_at (fun _ => rfl) fun cdv A outer s H E hr a => ?_
  obtain ⟨nm, nd⟩ := nm__law_cell_at (P := P) (w := w) (K := K) (mg := mg) (base := base) (outer := outer) (H := H) (E := E) hb hr
  obtain ⟨ns, i, h0⟩ := a
  show XSs _ [.scr ns, .dat (.int i)] _ _
  refine xs_cons (if_ (kk := decide (i < ns.length)) (by walk_at "fz") (xt_cmp (by walk_at "x") (xe_lenScr nm (by walk_at "has") (by walk_at "has") (by walk_at "x")) cd_lt) (fun hk => ?_) fun hk => ?_)
  · have h1 : i < ns.length := of_decide_eq_true hk
    exact xs_cons (x_ret (xe_ixScr (by walk_at "x") (by walk_at "x") (atI_getD h0 h1)) rfl)
  · have h1 : ¬ i < ns.length := of_decide_eq_false hk
    refine xs_nil (xs_cons (x_ret (by walk_at "x") ?_))
    show _ = _
    have : cellAt ns i = 0 := by
      unfold cellAt
      rw [List.getD_eq_getElem?_getD, List.getElem?_eq_none (by omega)]
      rfl
    rw [this]
theorem ok__law_names {f : Addr} {fd : FuncData} {k : Nat} (F : Fun K "_law_names" "_law_names" s__law_names f fd) (hb : Bl mg) : FnOk P w K mg base CX0 (k + 1) f fd ["_law_cell", "_law_many"] (cNames K) := by
  refine fn_con F sc__law_names (fun _ => rfl) fun cdv A outer s H E hr a => ?_
  obtain ⟨nm, nd⟩ := nm__law_names (P := P) (w := w) (K := K) (mg := mg) (base := base) (outer := outer) (H := H) (E := E) hb hr
  obtain ⟨c, n, hn⟩ := a
  show XSs _ [.dat (.int c), .dat (.int n), .un, .un, .un, .un, .un, .un, .un] _ _
  refine xs_cons (set nm nd (c := .dat (.str letters)) (by walk_at "x") (by walk_at "upd") ?_)
  refine xs_cons (if_ (by walk_at "fz") (by walk_at "x") (fun hk => ?_) fun hk => ?_)
  · obtain ⟨s0, hs0, hm⟩ := letter_at (c.fdiv 2)
    refine xs_cons (x_ret (c := .own ((rangeD 0 (n : Int).toNat).zipIdx.map fun p => PyData.str (Txt.mul ⟨#[s0]⟩ (0 + (p.2 : Int) + 1)))) ?_ ?_)
    · refine lcm nm (N := N__law_names) (sc := defScope s__law_names) rfl rfl 3 (fun i _ => PyData.str (Txt.mul ⟨#[s0]⟩ (0 + (i : Int) + 1))) (by rw [rangeD_len]; omega) (rg1 nm (by walk_at "has") (by walk_at "has") (by walk_at "x") (by omega)) (by decide +kernel) fun i d hd B => ?_
      obtain ⟨hi, rfl⟩ := rangeD_inv hd
      refine blk nm N__law_names (defScope s__law_names) [some "_law_cell", none, some "_law_some", some "_law_k"] [] rfl rfl (by decide +kernel) fun nmb => ?_
      show XE _ [.dat (.int c), .dat (.int n), .dat (.str letters), .dat (.int (0 + (i : Int))), .un, .un, .un, .un, .un] _ _
      walk_at "x"
      exact mul_ok (by omega) (by omega)
    · refine ⟨(List.range n).map fun i : Nat => Txt.mul ⟨#[s0]⟩ (0 + (i : Int) + 1), names_odd hm hn (by simp) fun j z hz => ?_, ?_⟩
      · rw [List.getElem?_map] at hz
        obtain ⟨i, hi, rfl⟩ := Option.map_eq_some_iff.mp hz
        have hj : i = j := by
          have := List.getElem?_eq_some_iff.mp hi
          obtain ⟨_, e⟩ := this
          rw [List.getElem_range] at e
          exact e.symm
        subst hj
        rw [mul_one (by omega)]
        congr 1
        omega
      · show Cell.own _ = Cell.own _
        congr 1
        refine List.ext_getElem? fun i => ?_
        rw [List.getElem?_map, List.getElem?_map, List.getElem?_map, List.getElem?_zipIdx]
        by_cases hi : i < n
        · rw [rangeD_get (by omega), List.getElem?_range hi]
          simp
        · rw [List.getElem?_eq_none (by rw [rangeD_len]; omega), List.getElem?_eq_none (by rw [List.length_range]; omega)]
          rfl
  · refine xs_nil ?_
    refine xs_cons (set nm nd (by walk_at "x") (by walk_at "upd") ?_)
    refine xs_cons (set nm nd (by walk_at "x") (by walk_at "upd") ?_)
    obtain ⟨sz, hsz⟩ : ∃ sz, sz = 1 + (c.fdiv 2).fmod 12 := ⟨_, rfl⟩
    have hb1 := fmod_lt (c.fdiv 2) (n := 12) (by decide)
    rw [← hsz]
    refine xs_cons (set nm nd (c := .dat (.int (((c.fdiv 2).fdiv 12).fmod sz))) ?_ (by walk_at "upd") ?_)
    · walk_at "x"
      omega
    obtain ⟨pl, hpl⟩ : ∃ pl, pl = ((c.fdiv 2).fdiv 12).fmod sz := ⟨_, rfl⟩
    have hb2 := fmod_lt ((c.fdiv 2).fdiv 12) (n := sz) (by omega)
    rw [← hpl] at hb2 ⊢
    obtain ⟨s0, hs0, hm⟩ := letter_at ((c.fdiv 2).fdiv 144)
    refine xs_cons (set nm nd (c := .dat (.str ⟨#[s0]⟩)) (by walk_at "x") (by walk_at "upd") ?_)
    refine xs_cons (set nm nd (c := .own []) (by walk_at "x") (by walk_at "upd") ?_)
    obtain ⟨q, hq⟩ : ∃ q, q = (c.fdiv 2).fdiv 3744 := ⟨_, rfl⟩
    refine xs_cons (for_ nm nd (ds := rangeD 0 (n : Int).toNat) (fun i cs => ∃ (zs : List Str) (x y : Cell), zs.length = i ∧ (∀ (j : Nat) z, zs[j]? = some z → ∃ s, atI letters.cps.toList (((j : Int) + q).fmod 26) = some s ∧ z.cps.toList = List.replicate pl.toNat s0 ++ s :: List.replicate (sz - 1 - pl).toNat s0) ∧
      cs = [.dat (.int (c.fdiv 2)), .dat (.int n), .dat (.str letters), x, .dat (.int sz), .dat (.int pl), .dat (.str ⟨#[s0]⟩), .own (zs.map .str), y]) (rg1 nm (by walk_at "has") (by walk_at "has") (by walk_at "x") (by omega)) ⟨[], _, _, rfl, fun j z h => by simp at h, rfl⟩ ?_ ?_)
    · rintro i d _ hd ⟨zs, x, y, hl, hz, rfl⟩
      obtain ⟨hi, rfl⟩ := rangeD_inv hd
      obtain ⟨s1, hs1, hm1⟩ := letter_at ((i : Int) + q)
      refine gnm nm nd (by walk_at "upd") ?_
      rw [show (0 : Int) + (i : Int) = (i : Int) by omega]
      refine xs_cons (set nm nd (c := .dat (.str ⟨#[s1]⟩)) ?_ (by walk_at "upd") ?_)
      · rw [hq] at hs1
        walk_at "x"
      have e1 := mul_one (c := s0) hb2.1
      have e2 := mul_one (c := s0) (show 0 ≤ sz - 1 - pl by omega)
      have l1 := mul_len (c := s0) hb2.1
      have l2 := mul_len (c := s0) (show 0 ≤ sz - 1 - pl by omega)
      have l3 : Str.length ⟨#[s1]⟩ = 1 := rfl
      have hs : sizeLine = 16777216 := rfl
      refine xs_cons (app nm (d := .str (Txt.mul ⟨#[s0]⟩ pl ++ ⟨#[s1]⟩ ++ Txt.mul ⟨#[s0]⟩ (sz - 1 - pl))) (by walk_at "sel") (by walk_at "upd") ?_ ?_ ?_)
      · walk_at "x"
        · exact mul_ok hb2.1 (by omega)
        · rw [l1, l3]; omega
        · exact mul_ok (by omega) (by omega)
        · rw [app_len, l1, l2, l3]; omega
      · rw [List.length_map]; omega
      · refine xs_nil ?_
        refine ⟨zs ++ [Txt.mul ⟨#[s0]⟩ pl ++ ⟨#[s1]⟩ ++ Txt.mul ⟨#[s0]⟩ (sz - 1 - pl)], _, _, by rw [List.length_append, hl]; rfl, fun j z hj => ?_, by rw [List.map_append]; rfl⟩
        by_cases hji : j < zs.length
        · rw [List.getElem?_append_left hji] at hj
          exact hz j z hj
        · rw [List.getElem?_append_right (by omega)] at hj
          have hj0 : j - zs.length = 0 := by
            have := (List.getElem?_eq_some_iff.mp hj).1
            simp at this
            omega
          rw [hj0] at hj
          cases hj
          have hji' : j = i := by omega
          subst hji'
          refine ⟨s1, hs1, ?_⟩
          rw [app_list, app_list, e1, e2]
          simp
    · rintro _ ⟨zs, x, y, hl, hz, rfl⟩
      rw [rangeD_len] at hl
      refine xs_cons (retN nm (c := .own (zs.map .str)) (by walk_at "sel") ?_)
      exact ⟨zs, names_even (n := n) hm hn (by omega) (by omega) hz, rfl⟩
theorem ok_idx {zs : List Str} {n : Nat} (hz : OkNames zs n) {i : Int} (h0 : 0 ≤ i) (h : i < n) : ∃ z, atI (zs.map PyData.str) i = some (.str z) ∧ zs[i.toNat]? = some z ∧ z ∈ zs := by
  have hl : i.toNat < zs.length := by rw [hz.1]; omega
  refine ⟨zs[i.toNat], atI_nat' (n := i.toNat) (by omega) ?_, List.getElem?_eq_getElem hl, List.getElem_mem hl⟩
  rw [List.getElem?_map, List.getElem?_eq_getElem hl]
  rfl
theorem ok__law_rides {f : Addr} {fd : FuncData} {k : Nat} (F : Fun K "_law_rides" "_law_rides" s__law_rides f fd) (hb : Bl mg) {j : Nat} (hj : j ≤ k) (CC : Cal P w K mg base "_law_cell_at" j (cCell K)) : FnOk P w K mg base CX0 (k + 1) f fd ["_law_script", "_law_place", "_law_names_here", "_law_size"] (cMkRides K) := by
  refine fn_con F sc__law_rides (fun _ => rfl) fun cdv A outer s H E hr a => ?_
  obtain ⟨nm, nd⟩ := nm__law_rides (P := P) (w := w) (K := K) (mg := mg) (base := base) (outer := outer) (H := H) (E := E) hb hr
  obtain ⟨ns, p, hp, zs, nz, hz, h1, n, hn⟩ := a
  show XSs _ [.scr ns, .dat (.int p), .dat (.list (zs.map .str)), .dat (.int n), .un, .un, .un, .un, .un, .un] _ _
  refine xs_cons (set nm nd (c := .own []) (by walk_at "x") (by walk_at "upd") ?_)
  refine xs_cons (for_ nm nd (ds := rangeD 0 (n : Int).toNat) (fun i cs => ∃ (rs : List Ride) (x y u v z : Cell), rs.length ≤ i ∧ (∀ r ∈ rs, OkR r) ∧
      cs = [.scr ns, .dat (.int p), .dat (.list (zs.map .str)), .dat (.int n), .own (rs.map rideD), x, y, u, v, z]) (rg1 nm (by walk_at "has") (by walk_at "has") (by walk_at "x") (by omega)) ⟨[], _, _, _, _, _, Nat.le_refl 0, fun r h => (by cases h), rfl⟩ ?_ ?_)
  · rintro i d _ hd ⟨rs, x, y, u, v, z, hl, hrs, rfl⟩
    obtain ⟨hi, rfl⟩ := rangeD_inv hd
    refine gnm nm nd (by walk_at "upd") ?_
    rw [show (0 : Int) + (i : Int) = (i : Int) by omega]
    refine xs_cons (set nm nd (calE nm CC hj (by walk_at "has") ⟨ns, p + i, by omega⟩ (by walk_at "x")) (by walk_at "upd") ?_)
    obtain ⟨c, hc⟩ : ∃ c, c = cellAt ns (p + i) := ⟨_, rfl⟩
    rw [← hc]
    have lz : ((zs.map PyData.str).length : Int) = nz := by rw [List.length_map, hz.1]
    obtain ⟨o0, o1⟩ := fmod_lt c (n := (nz : Int)) (by omega)
    refine xs_cons (set nm nd (c := .dat (.int (c.fmod nz))) ?_ (by walk_at "upd") ?_)
    · rw [← lz]
      walk_at "x"
      omega
    obtain ⟨one, hone⟩ : ∃ o, o = c.fmod nz := ⟨_, rfl⟩
    rw [← hone] at o0 o1 ⊢
    refine xs_cons (set nm nd (c := .dat (.int ((one + 1 + (c.fdiv 8).fmod (if (nz : Int) - 1 > 1 then (nz : Int) - 1 else 1)).fmod nz))) ?_ (by walk_at "upd") ?_)
    · rw [← lz]
      walk_at "x"
      · split <;> omega
      · omega
    obtain ⟨p0, p1⟩ := fmod_lt (one + 1 + (c.fdiv 8).fmod (if (nz : Int) - 1 > 1 then (nz : Int) - 1 else 1)) (n := (nz : Int)) (by omega)
    obtain ⟨oth, hoth⟩ : ∃ o, o = (one + 1 + (c.fdiv 8).fmod (if (nz : Int) - 1 > 1 then (nz : Int) - 1 else 1)).fmod nz := ⟨_, rfl⟩
    rw [← hoth] at p0 p1 ⊢
    refine xs_cons (set nm nd (c := .dat (.int (1 + (c.fdiv 64).fmod 40))) (by walk_at "x") (by walk_at "upd") ?_)
    have b1 := fmod_lt (c.fdiv 64) (n := 40) (by decide)
    have b2 := fmod_lt (c.fdiv 512) (n := 9999) (by decide)
    refine xs_cut (fun cs => ∃ m : Int, 1 ≤ m ∧ m ≤ 9999 ∧ cs = [.scr ns, .dat (.int p), .dat (.list (zs.map .str)), .dat (.int n), .own (rs.map rideD), .dat (.int i), .dat (.int c), .dat (.int one), .dat (.int oth), .dat (.int m)]) (if_ (by walk_at "fz") (by walk_at "x") (fun _ => ?_) fun _ => ?_) ?_
    · refine xs_cons (set nm nd (by walk_at "x") (by walk_at "upd") ?_)
      exact xs_nil ⟨_, by omega, by omega, rfl⟩
    · exact xs_nil ⟨_, by omega, by omega, rfl⟩
    rintro _ ⟨m, m0, m1, rfl⟩
    refine xs_cons (if_ (by walk_at "fz") (by walk_at "x") (fun hk => ?_) fun hk => ?_)
    · have hne : one ≠ oth := by simpa using hk
      obtain ⟨z1, a1, g1, e1⟩ := ok_idx hz o0 o1
      obtain ⟨z2, a2, g2, e2⟩ := ok_idx hz p0 p1
      have hzz : z1 ≠ z2 := fun e => by
        subst e
        have := nd_ix hz.2.1 g1 g2
        omega
      refine xs_cons (app nm (d := rideD (z1, z2, m)) (by walk_at "sel") (by walk_at "upd") (by walk_at "x") (by rw [List.length_map]; omega) ?_)
      refine xs_nil (xs_nil ⟨rs ++ [(z1, z2, m)], _, _, _, _, _, by rw [List.length_append]; exact Nat.add_le_add hl (Nat.le_refl 1), fun r hr => ?_, by rw [List.map_append]; rfl⟩)
      rcases List.mem_append.mp hr with hr | hr
      · exact hrs r hr
      · rw [List.mem_singleton.mp hr]
        exact okR_iff.mpr ⟨hz.2.2 _ e1, hz.2.2 _ e2, hzz, m0, m1⟩
    · exact xs_nil (xs_nil ⟨rs, _, _, _, _, _, by omega, hrs, rfl⟩)
  · rintro _ ⟨rs, x, y, u, v, z, hl, hrs, rfl⟩
    rw [rangeD_len] at hl
    refine xs_cons (retN nm (c := .own (rs.map rideD)) (by walk_at "sel") ?_)
    exact ⟨rs, (by show rs.length ≤ n; omega), hrs, rfl⟩
end
end K8

set_option maxRecDepth 100000
set_option maxHeartbeats 4000000
namespace K8
open PySem PySem.Spec PyProof.Rows L2 Fw Bus
open Dj (Best dist)
local macro_rules | `(tactic| walk_at "sel") => `(tactic| repeat (first | with_reducible apply Sel.z | apply Sel.s))
local macro_rules | `(tactic| walk_at "upd") => `(tactic| repeat (first | with_reducible apply Upd.z | apply Upd.s))
local macro_rules | `(tactic| walk_at "has") => `(tactic| repeat (first | with_reducible apply Has.z | apply Has.s))
local macro_rules | `(tactic| walk_at "fz") => `(tactic| repeat (first | exact Fz.nil | apply Fz.un | apply Fz.dat | apply Fz.scr | apply Fz.rng | apply Fz.dic | apply Fz.ldc | apply Fz.own | apply Fz.odi | apply Fz.any))
local macro_rules | `(tactic| walk_at "bi") => `(tactic| first | with_reducible exact BI.len | with_reducible exact BI.max | with_reducible exact BI.min | with_reducible exact BI.all | with_reducible exact BI.any | with_reducible exact BI.sorted | with_reducible exact BI.sum | with_reducible exact BI.abs)
local macro_rules | `(tactic| walk_at "bt") => `(tactic| first | with_reducible exact BT.list | with_reducible exact BT.tuple | with_reducible exact BT.str | with_reducible exact BT.int | with_reducible exact BT.bool | with_reducible exact BT.dict)
local macro_rules | `(tactic| walk_at "bd") => `(tactic| first | exact bd_add | exact bd_sub | (apply bd_mod <;> try decide) | (apply bd_fdiv <;> try decide) | apply bd_adds | apply bd_muls | apply bd_mul | apply bd_cat)
local macro_rules | `(tactic| walk_at "cd") => `(tactic| first | exact cd_lt | exact cd_le | exact cd_gt | exact cd_ge | exact cd_eqi | exact cd_nei | exact cd_eqs | exact cd_nes | exact cd_inSign | apply cd_eqD (Nm.hu (by assumption)) | apply cd_neD (Nm.hu (by assumption)) | apply cd_inD (Nm.hu5 (by assumption)) | apply cd_notInD (Nm.hu5 (by assumption)))
local macro_rules | `(tactic| walk_at "id") => `(tactic| first | (apply id_l <;> try first | assumption | rfl) | (apply id_t <;> try first | assumption | rfl) | (apply id_s <;> try first | assumption | (show Str.length _ ≤ sizeLine; decide +kernel)))
local macro_rules | `(tactic| walk_at "cl") => `(tactic| first | exact cl_lenL | exact cl_lenT | apply cl_lenS | exact cl_list | exact cl_max2 (Nm.calm (by assumption)) | exact cl_all (Nm.calm (by assumption)))
local macro_rules | `(tactic| walk_at "x") => `(tactic| first
  | exact xe_int | exact xe_str | exact xe_bl | exact xe_non
  | (apply ve; · assumption
     · walk_at "sel")
  | (apply ve'; · assumption
     · walk_at "sel"
     all_goals (first | rfl | (intro z; cases z; done)))
  | (apply gle_int; · assumption
     · walk_at "has"
     · with_reducible assumption)
  | (apply gle_str; · assumption
     · walk_at "has"
     · with_reducible assumption)
  | (show Nm _ _ _ _ _ _ _ _ _ _; assumption)
  | (apply xe_bin <;> try walk_at "x") | walk_at "bd"
  | (apply xt_cmp <;> try walk_at "x") | (apply xe_cmp <;> try walk_at "x") | walk_at "cd"
  | (show behindInMarks _ _ = false; first | exact nomark _ | rfl)
  | (apply xt_not <;> try walk_at "x") | (apply xe_not <;> try walk_at "x")
  | (apply xe_unop <;> try walk_at "x") | exact ud_neg
  | (apply xt_pw; apply xw_and <;> try walk_at "x") | (apply xt_pw; apply xw_or <;> try walk_at "x")
  | (apply xw_and <;> try walk_at "x") | (apply xw_or <;> try walk_at "x") | (apply xw_and1 <;> try walk_at "x") | (apply xw_or1 <;> try walk_at "x")
  | (apply xe_and <;> try walk_at "x") | (apply xe_or <;> try walk_at "x") | (apply xe_one <;> try walk_at "x")
  | (apply cisi; · assumption
     · walk_at "bt"
     · walk_at "has"
     · walk_at "has"
     · walk_at "has"
     · walk_at "has"
     all_goals try walk_at "x")
  | (apply cbi; · assumption
     · walk_at "bi"
     · walk_at "has"
     · walk_at "has"
     all_goals try walk_at "x")
  | (apply cty; · assumption
     · walk_at "bt"
     · walk_at "has"
     · walk_at "has"
     all_goals walk_at "x")
  | (apply xe_fr (c := .own _)
     (apply cty; · assumption
      · walk_at "bt"
      · walk_at "has"
      · walk_at "has"
      all_goals walk_at "x"))
  | (apply cty; · assumption
     · walk_at "bt"
     · walk_at "has"
     · walk_at "has"
     all_goals try walk_at "x")
  | walk_at "cl"
  | exact xd_nil | (apply xd_cons <;> try walk_at "x") | exact xa_nil | (apply xa_c <;> try walk_at "x")
  | (apply xe_list <;> try walk_at "x") | (apply xe_tup <;> try walk_at "x")
  | (apply xe_ix <;> try walk_at "x") | walk_at "id"
  | (show PlainIx _; exact fun _ _ => rfl)
  | (apply xt_chainI op_le op_le <;> try walk_at "x") | (apply xt_chainI op_le op_lt <;> try walk_at "x") | (apply xe_chainI op_le op_le <;> try walk_at "x") | (apply xe_chainI op_le op_lt <;> try walk_at "x")
  | (apply xt_val <;> try walk_at "x")
  | (apply xe_fr (c := .own _) <;> try walk_at "x")
  | (show List.length _ ≤ 100000; exact Nat.le_of_ble_eq_true rfl)
  | (show lastMarks _ _ = false; with_unfolding_all rfl)
  | (show _ = _; rfl)
  | (intro _; walk_at "x"))
theorem stop_shp {s : Stop} (h : Ok s.1) : Shp (stopD s) 1 := shp_tup fun d hd => by
  simp only [List.mem_cons, List.not_mem_nil, or_false] at hd
  rcases hd with rfl | rfl
  · exact ok_shp h
  · exact shp_int _
/-- the parts of a day, one by one -/
theorem stops_split {f : Nat → List Stop} {done : List Trip} {k : Nat} {t : Trip} (ht : done[k]? = some t) : ∀ {n : Nat}, k < n → ∃ rest, stopsN f done n = stopsN f done k ++ (f k ++ (endsOf t ++ rest))
  | 0, h => by omega
  | n + 1, h => by
    rw [show stopsN f done (n + 1) = stopsN f done n ++ (f n ++ ((done[n]?).elim [] endsOf)) from rfl]
    by_cases e : k = n
    · subst e
      rw [ht]
      exact ⟨[], by rw [List.append_nil]; rfl⟩
    · obtain ⟨rest, hr⟩ := stops_split (f := f) ht (n := n) (by omega)
      rw [hr]
      exact ⟨rest ++ (f n ++ ((done[n]?).elim [] endsOf)), by simp only [List.append_assoc]⟩
theorem stops_succ {f : Nat → List Stop} {done : List Trip} {k : Nat} {t : Trip} (ht : done[k]? = some t) : stopsN f done (k + 1) = stopsN f done k ++ (f k ++ endsOf t) := by
  show _ ++ (_ ++ (done[k]?).elim [] endsOf) = _
  rw [ht]
  rfl
theorem app_at {α : Type} {A B : List α} {i : Int} {j : Nat} {v : α} (hi : i = ((A.length + j : Nat) : Int)) (h : B[j]? = some v) : atI (A ++ B) i = some v := atI_nat' (n := A.length + j) hi (by rw [List.getElem?_append_right (by omega), Nat.add_sub_cancel_left]; exact h)
/-- along a way the minutes rise -/
theorem way_rise {L : List Ride} {src other : Str} {zs : List Str} (hL : ∀ r ∈ L, 1 ≤ r.2.2) (W : WayOk L src other zs) : ∀ (d i : Nat) a b m n, zs[i]? = some a → zs[i + d + 1]? = some b → dist L src a = some m → dist L src b = some n → m < n
  | 0, i, a, b, m, n, h1, h2, h3, h4 => by
    obtain ⟨m', w, e1, e2, e3⟩ := W.step i a b h1 h2
    rw [h3] at e1
    cases e1
    rw [h4] at e3
    cases e3
    have := hL _ e2
    have this : 1 ≤ w := this
    omega
  | d + 1, i, a, b, m, n, h1, h2, h3, h4 => by
    have hl := (List.getElem?_eq_some_iff.mp h2).1
    have hc : zs[i + 1]? = some zs[i + 1] := List.getElem?_eq_getElem (by omega)
    obtain ⟨m', w, e1, e2, e3⟩ := W.step i a _ h1 hc
    rw [h3] at e1
    cases e1
    have := hL _ e2
    have this : 1 ≤ w := this
    have := way_rise hL W d (i + 1) _ b _ n hc (by rw [show i + 1 + d + 1 = i + (d + 1) + 1 by omega]; exact h2) e3 h4
    omega
/-- only the last place of a way is where it leads to -/
theorem way_last {L : List Ride} {src other : Str} {zs : List Str} (hL : ∀ r ∈ L, 1 ≤ r.2.2) (W : WayOk L src other zs) {j : Nat} (hj : j + 1 < zs.length) {z : Str} (hz : zs[j]? = some z) : z ≠ other := fun e => by
  obtain ⟨m, hm⟩ := way_all hL W _ _ hz
  have hl : zs[j + (zs.length - 1 - (j + 1)) + 1]? = some other := by
    obtain ⟨l, el⟩ := W.last
    rw [el, List.length_append, List.length_singleton] at hj ⊢
    rw [List.getElem?_append_right (by omega), show j + (l.length + 1 - 1 - (j + 1)) + 1 - l.length = 0 by omega]
    rfl
  obtain ⟨n, hn⟩ := way_all hL W _ _ hl
  have := way_rise hL W _ j _ _ _ _ hz hl hm hn
  rw [e, hn] at hm
  cases hm
  omega
structure AWalk where
  L : List Ride
  hok : ∀ r ∈ L, Ok r.1 ∧ Ok r.2.1
  hL : ∀ r ∈ L, 1 ≤ r.2.2
  hl : L.length ≤ 200
  ts : List Trip
  hts : ∀ t ∈ ts, OkT t
  row : List Nat
  done : List Trip
  hd : done.length = row.length
  hr : ∀ (i n : Nat), row[i]? = some n → ts[n]? = done[i]?
  l3 : row.length ≤ 100
  f : Nat → List Stop
  hp : PartsOk L done f done.length
/-- the roads from a to b -/
def btw (a b : Str) (r : Ride) : Bool := decide (r.1 = a) && decide (r.2.1 = b)
abbrev cWalked (K : PySem.W.Frag) : Sp := Con K (fun a : AWalk => [.dat (.list (a.L.map rideD)), .dat (.list (a.ts.map tripD)), .dat (.list (a.row.map fun n => .int (n : Nat))), .dat (.list ((stopsN a.f a.done a.done.length).map stopD))]) (fun _ c => c = .dat (.bool true))
abbrev cStops (K : PySem.W.Frag) : Sp := Con K (fun ss : List Stop => [.dat (.list (ss.map stopD))]) (fun _ c => c = .dat (.bool true))
section
variable {P : Program} {w : World} {K : PySem.W.Frag} {mg : Str → Option Value} {base : Heap}
theorem ok__law_stops {f : Addr} {fd : FuncData} {k : Nat} (F : Fun K "_law_stops" "_law_stops" s__law_stops f fd) (hb : Bl mg) {j : Nat} (hj : j ≤ k) (CW : Cal P w K mg base "_law_whole" j (cWhole K)) : FnOk P w K mg base CX0 (k + 1) f fd ["_law_found"] (cStops K) := by
  refine fn_con F sc__law_stops (fun _ => rfl) fun cdv A outer s H E hr ss => ?_
  obtain ⟨nm, nd⟩ := nm__law_stops (P := P) (w := w) (K := K) (mg := mg) (base := base) (outer := outer) (H := H) (E := E) hb hr
  show XSs _ [.dat (.list (ss.map stopD)), .un] _ _
  refine xs_cons (if_ (kk := false) (by walk_at "fz") (XT.is (by walk_at "x") (by simp [isT, isTn, tyD])) (fun h => by cases h) fun _ => xs_nil ?_)
  refine xs_cons (for_ nm nd (ds := ss.map stopD) (fun _ c => ∃ x, c = [.dat (.list (ss.map stopD)), x]) (xi_list (by walk_at "x")) ⟨_, rfl⟩ ?_ ?_)
  · rintro i d _ hd ⟨x, rfl⟩
    obtain ⟨q, hq0, hq', rfl⟩ := map_get hd
    obtain ⟨z, m⟩ := q
    refine gnm nm nd (by walk_at "upd") ?_
    show XSs _ [_, Cell.dat (.tuple [.str z, .int m])] _ _
    refine xs_cons (if_ (kk := false) (by walk_at "fz") ?_ (fun h => by cases h) fun _ => xs_nil (xs_nil ⟨_, rfl⟩))
    refine xt_pw (xw_or (x := false) (y := false) (XT.is (by walk_at "x") (by simp [isT, isTn, tyD])) fun _ => xw_or (x := false) (y := false) (XT.is (by walk_at "x") (by simp)) fun _ => xw_or (x := false) (y := false) (XT.is (by walk_at "x") (by simp [isT, isTn, tyD])) fun _ => xw_or1 ?_)
    exact XT.is (xt_not (xt_val (calE nm CW hj (by walk_at "has") (.int m) (by walk_at "x")))) (by simp [isT, isTn, tyD])
  · rintro _ ⟨x, rfl⟩
    exact xs_cons (x_ret xe_bl rfl)
theorem ok__law_walked {f : Addr} {fd : FuncData} {k : Nat} (F : Fun K "_law_walked" "_law_walked" s__law_walked f fd) (hb : Bl mg) : FnOk P w K mg base CX0 (k + 1) f fd ["_law_told", "_law_trips_here", "_law_row", "_law_stops_here"] (cWalked K) := by
  refine fn_con F sc__law_walked (fun _ => rfl) fun cdv A outer s H E hr a => ?_
  obtain ⟨nm, nd⟩ := nm__law_walked (P := P) (w := w) (K := K) (mg := mg) (base := base) (outer := outer) (H := H) (E := E) hb hr
  obtain ⟨L, hok, hL, hl, ts, hts, row, done, hd, hrow, l3, fp, hp⟩ := a
  obtain ⟨S, hS⟩ : ∃ S, S = stopsN fp done done.length := ⟨_, rfl⟩
  have hSl := stopsN_len hp (Nat.le_refl _) (Nat.le_refl _)
  rw [← hS] at hSl
  have hSl2 : done.length * (L.length + 2) ≤ 100 * 202 := Nat.mul_le_mul (by omega) (by omega)
  show XSs _ [.dat (.list (L.map rideD)), .dat (.list (ts.map tripD)), .dat (.list (row.map fun n => .int (n : Nat))), .dat (.list ((stopsN fp done done.length).map stopD)), .un, .un, .un, .un, .un, .un] _ _
  rw [← hS]
  have tat : ∀ i : Nat, i < row.length → ∃ n t, row[i]? = some n ∧ done[i]? = some t ∧ t ∈ ts ∧ atI (row.map fun n => PyData.int (n : Nat)) (i : Int) = some (.int (n : Nat)) ∧ atI (ts.map tripD) (n : Int) = some (tripD t) := fun i hi => by
    have e1 : row[i]? = some row[i] := List.getElem?_eq_getElem hi
    have e2 : done[i]? = some done[i] := List.getElem?_eq_getElem (by omega)
    have e3 := hrow i _ e1
    rw [e2] at e3
    exact ⟨_, _, e1, e2, List.mem_of_getElem? e3, atI_nat' (n := i) rfl (by rw [List.getElem?_map, e1]; rfl), atI_nat' (n := row[i]) rfl (by rw [List.getElem?_map, e3]; rfl)⟩
  have h0 : Shp (.list []) 1 := shp_list fun d hd => by cases hd
  refine xs_cons (set nm nd (c := .dat (.int 0)) (by walk_at "x") (by walk_at "upd") ?_)
  refine xs_cons (for_ nm nd (ds := rangeD 0 (row.length : Int).toNat) (fun i c => ∃ a1 a2 a3 a4 a5, c = [.dat (.list (L.map rideD)), .dat (.list (ts.map tripD)), .dat (.list (row.map fun n => .int (n : Nat))), .dat (.list (S.map stopD)), .dat (.int ((stopsN fp done i).length : Nat)), a1, a2, a3, a4, a5]) (rg1 nm (by walk_at "has") (by walk_at "has") (XE.is (by walk_at "x") (by rw [List.length_map])) (by omega)) ⟨_, _, _, _, _, rfl⟩ ?_ ?_)
  · rintro i d _ hd2 ⟨a1, a2, a3, a4, a5, rfl⟩
    obtain ⟨hi, rfl⟩ := rangeD_inv hd2
    have hi : i < row.length := by omega
    rw [show (0 : Int) + (i : Int) = (i : Int) by omega]
    obtain ⟨n, t, en, et, mt, an, at'⟩ := tat i hi
    obtain ⟨rest, hsp⟩ := stops_split (f := fp) et (n := done.length) (by omega)
    rw [← hS] at hsp
    obtain ⟨A, hA⟩ : ∃ A, A = stopsN fp done i := ⟨_, rfl⟩
    rw [← hA] at hsp ⊢
    have okt := okT_iff.mp (hts t mt)
    refine gnm nm nd (by walk_at "upd") ?_
    refine xs_cons (set nm nd (c := .dat (tripD t)) (xe_ix (d := .list (ts.map tripD)) (e := .int (n : Nat)) (by walk_at "x") (xe_ix (d := .list (row.map fun n => .int (n : Nat))) (by walk_at "x") (by walk_at "x") (id_l an)) (id_l at')) (by walk_at "upd") ?_)
    refine xs_cut (fun c => ∃ a1 a3 a4 a5, c = [.dat (.list (L.map rideD)), .dat (.list (ts.map tripD)), .dat (.list (row.map fun n => .int (n : Nat))), .dat (.list (S.map stopD)), .dat (.int ((A.length + (fp i).length : Nat))), a1, .dat (tripD t), a3, a4, a5]) (if_ (kk := decide (0 < (i : Int))) (by walk_at "fz") (by walk_at "x") (fun hk => ?_) fun hk => ?_) ?_
    · have hi0 : 0 < i := by have := of_decide_eq_true hk; omega
      obtain ⟨n0, t0, en0, et0, mt0, an0, at0⟩ := tat (i - 1) (by omega)
      have ok0 := okT_iff.mp (hts t0 mt0)
      obtain ⟨⟨hin, zs, W, hf⟩, _⟩ := hp.2 (i - 1) t0 t (by omega) et0 (by rw [show i - 1 + 1 = i by omega]; exact et)
      rw [show i - 1 + 1 = i by omega] at hf
      obtain ⟨m0, hm0, hle⟩ := inT_iff.mp hin
      have zl : 1 ≤ zs.length := by
        have := (List.getElem?_eq_some_iff.mp W.head).1
        omega
      have hfl : (fp i).length = zs.length - 1 := by rw [hf, List.length_map, List.length_tail]
      -- where the one ahead ends
      have hA2 : ∃ A', A = A' ++ [(t0.2.2.1, t0.2.2.2)] := by
        have := stops_succ (f := fp) et0
        rw [show i - 1 + 1 = i by omega, ← hA] at this
        exact ⟨stopsN fp done (i - 1) ++ (fp (i - 1) ++ [(t0.1, t0.2.1)]), by rw [this]; simp [endsOf]⟩
      obtain ⟨A', hA'⟩ := hA2
      have aend : atI (S.map stopD) (((A.length : Nat) : Int) - 1) = some (stopD (t0.2.2.1, t0.2.2.2)) := by
        rw [hsp, hA', List.append_assoc, List.map_append]
        exact app_at (j := 0) (by rw [List.length_append, List.length_singleton, List.length_map]; omega) rfl
      have astop : ∀ j z mz, zs[j + 1]? = some z → dist L t0.2.2.1 z = some mz → atI (S.map stopD) ((A.length + j : Nat) : Int) = some (stopD (z, t0.2.2.2 + mz)) := fun j z mz h1 h2 => by
        rw [hsp, List.map_append]
        refine app_at (j := j) (by rw [List.length_map]) ?_
        have hj : j < (fp i).length := by
          have := (List.getElem?_eq_some_iff.mp h1).1
          omega
        rw [List.getElem?_map, List.getElem?_append_left hj, hf, List.getElem?_map, List.getElem?_tail, h1]
        show some (stopD (z, t0.2.2.2 + (dist L t0.2.2.1 z).getD 0)) = _
        rw [h2]
        rfl
      have abeg : atI (S.map stopD) ((A.length + (zs.length - 1) : Nat) : Int) = some (stopD (t.1, t.2.1)) := by
        rw [hsp, List.map_append]
        refine app_at (j := zs.length - 1) (by rw [List.length_map]) ?_
        rw [List.getElem?_map, List.getElem?_append_right (by omega), hfl, Nat.sub_self]
        rfl
      have hSlen : A.length + (zs.length - 1) + 2 ≤ S.length := by
        rw [hsp, List.length_append, List.length_append, List.length_append, hfl]
        show A.length + (zs.length - 1) + 2 ≤ A.length + (zs.length - 1 + (2 + rest.length))
        omega
      refine xs_cons (set nm nd (c := .dat (stopD (t0.2.2.1, t0.2.2.2))) (xe_ix (d := .list (S.map stopD)) (by walk_at "x") (by walk_at "x") (id_l aend)) (by walk_at "upd") ?_)
      refine xs_cons (while_ nd (fun ms c => ∃ j z mz a4 a6, ms = zs.length - 1 - j ∧ j + 1 ≤ zs.length ∧ zs[j]? = some z ∧ dist L t0.2.2.1 z = some mz ∧ c = [.dat (.list (L.map rideD)), .dat (.list (ts.map tripD)), .dat (.list (row.map fun n => .int (n : Nat))), .dat (.list (S.map stopD)), .dat (.int ((A.length + j : Nat))), .dat (.int (i : Nat)), .dat (tripD t), .dat (stopD (z, t0.2.2.2 + mz)), a4, a6]) _ ⟨0, t0.2.2.1, 0, _, _, rfl, zl, W.head, Dj.dist_src hL, by rw [Int.add_zero]; rfl⟩ ?_)
      rintro ms _ ⟨l, z, mz, a4, a6, rfl, hl1, hz, hmz, rfl⟩
      by_cases hlast : l + 1 = zs.length
      · -- at the end of the way
        have hzt : z = t.1 := by
          obtain ⟨q, e⟩ := W.last
          rw [e, List.length_append, List.length_singleton] at hlast
          rw [e, List.getElem?_append_right (by omega), show l - q.length = 0 by omega] at hz
          cases hz
          rfl
        subst hzt
        rw [hm0] at hmz
        cases hmz
        rw [show zs.length - 1 = l by omega] at abeg
        refine ⟨false, _, by walk_at "fz", ?_, (fun h => by cases h), fun _ => ?_⟩
        · refine XT.is (xt_pw (xw_and (x := true) (y := false) (XT.is (xt_cmp (by walk_at "x") (XE.is (by walk_at "x") (by rw [List.length_map])) cd_lt) (by simp; omega)) fun _ => xw_and1 (xt_pw (xw_or (x := false) (y := false) ?_ fun _ => xw_or1 ?_)))) rfl
          · exact XT.is (xt_cmp (xe_ix (d := stopD (t.1, t0.2.2.2 + m0)) (by walk_at "x") (by walk_at "x") (by unfold stopD; walk_at "id")) (xe_ix (d := tripD t) (by walk_at "x") (by walk_at "x") (by unfold tripD; walk_at "id")) cd_nes) (by simp)
          · exact XT.is (xt_cmp (xe_ix (d := stopD (t.1, t.2.1)) (xe_ix (d := .list (S.map stopD)) (by walk_at "x") (by walk_at "x") (id_l abeg)) (by walk_at "x") (by unfold stopD; walk_at "id")) (xe_ix (d := tripD t) (by walk_at "x") (by walk_at "x") (by unfold tripD; walk_at "id")) cd_nes) (by simp)
        · refine xs_cons (if_ (kk := false) (by walk_at "fz") ?_ (fun h => by cases h) fun _ => xs_nil ?_)
          · refine xt_pw (xw_or (x := false) (y := false) ?_ fun _ => xw_or1 ?_)
            · exact XT.is (xt_cmp (xe_ix (d := stopD (t.1, t0.2.2.2 + m0)) (by walk_at "x") (by walk_at "x") (by unfold stopD; walk_at "id")) (xe_ix (d := tripD t) (by walk_at "x") (by walk_at "x") (by unfold tripD; walk_at "id")) cd_nes) (by simp)
            · exact XT.is (xt_cmp (xe_ix (d := stopD (t.1, t0.2.2.2 + m0)) (by walk_at "x") (by walk_at "x") (by unfold stopD; walk_at "id")) (xe_ix (d := tripD t) (by walk_at "x") (by walk_at "x") (by unfold tripD; walk_at "id")) cd_gt) (decide_eq_false (by omega))
          exact xs_nil ⟨_, _, _, _, by rw [hfl, show zs.length - 1 = l by omega]⟩
      · -- on the way
        have hz1 : zs[l + 1]? = some zs[l + 1] := List.getElem?_eq_getElem (by omega)
        obtain ⟨z1, hz1⟩ : ∃ z1, zs[l + 1]? = some z1 := ⟨_, hz1⟩
        obtain ⟨mz', wd, e1, hin2, e2⟩ := W.step l z z1 hz hz1
        rw [hmz] at e1
        cases e1
        have hne := way_last hL W (by omega) hz
        have as1 := astop l z1 _ hz1 e2
        refine ⟨true, _, by walk_at "fz", ?_, fun _ => ?_, fun h => by cases h⟩
        · refine XT.is (xt_pw (xw_and (x := true) (y := true) (XT.is (xt_cmp (by walk_at "x") (XE.is (by walk_at "x") (by rw [List.length_map])) cd_lt) (by simp; omega)) fun _ => xw_and1 (xt_orT ?_))) rfl
          exact XT.is (xt_cmp (xe_ix (d := stopD (z, t0.2.2.2 + mz)) (by walk_at "x") (by walk_at "x") (by unfold stopD; walk_at "id")) (xe_ix (d := tripD t) (by walk_at "x") (by walk_at "x") (by unfold tripD; walk_at "id")) cd_nes) (by simp [hne])
        · refine xs_cons (setLcg nm nd (N := N__law_walked) (sc := defScope s__law_walked) rfl rfl 9 (ds := L.map rideD) (fun i => ((L.take i).filter (btw z z1)).map fun r => .int r.2.2) rfl (by rw [List.length_map]; omega) (xi_list (by walk_at "x")) (by decide +kernel) (by walk_at "upd") (show (defScope s__law_walked).names.lookup ("_law_steps" : Str) = some NameKind.local by decide +kernel) (sw_true rfl rfl rfl (by decide +kernel)) ?_ ?_)
          · intro i2 d hd
            obtain ⟨r, hr0, hr', rfl⟩ := map_get hd
            refine ⟨btw z z1 r, fun B => xts_one ?_, fun hk => ⟨.int r.2.2, fun B => ?_, ?_⟩, fun hk => ?_⟩
            · refine blkT nm N__law_walked (defScope s__law_walked) [none, none, none, some "_law_stops_here", some "_law_at", none, none, some "_law_here", none, some "_law_road"] [] rfl rfl (by decide +kernel) fun nmb => ?_
              show XT _ [.dat (.list (L.map rideD)), .dat (.list (ts.map tripD)), .dat (.list (row.map fun n => .int (n : Nat))), .dat (.list (S.map stopD)), .dat (.int ((A.length + l : Nat))), .dat (.int (i : Nat)), .dat (tripD t), .dat (stopD (z, t0.2.2.2 + mz)), a4, .dat (.tuple [.str r.1, .str r.2.1, .int r.2.2])] _ _
              refine xt_pw (xw_and (x := decide (r.1 = z)) (y := decide (r.2.1 = z1)) ?_ fun _ => xw_and1 ?_)
              · exact xt_cmp (by walk_at "x") (xe_ix (d := stopD (z, t0.2.2.2 + mz)) (by walk_at "x") (by walk_at "x") (by unfold stopD; walk_at "id")) cd_eqs
              · exact xt_cmp (by walk_at "x") (xe_ix (d := stopD (z1, t0.2.2.2 + (mz + wd))) (xe_ix (d := .list (S.map stopD)) (by walk_at "x") (by walk_at "x") (id_l as1)) (by walk_at "x") (by unfold stopD; walk_at "id")) cd_eqs
            · refine blk nm N__law_walked (defScope s__law_walked) [none, none, none, none, none, none, none, none, none, some "_law_road"] [] rfl rfl (by decide +kernel) fun nmb => ?_
              show XE _ [.dat (.list (L.map rideD)), .dat (.list (ts.map tripD)), .dat (.list (row.map fun n => .int (n : Nat))), .dat (.list (S.map stopD)), .dat (.int ((A.length + l : Nat))), .dat (.int (i : Nat)), .dat (tripD t), .dat (stopD (z, t0.2.2.2 + mz)), a4, .dat (.tuple [.str r.1, .str r.2.1, .int r.2.2])] _ _
              walk_at "x"
            · rw [filter_take hr0, if_pos hk, List.map_append]
              rfl
            · rw [filter_take hr0, if_neg (by rw [hk]; decide)]
          rw [List.length_map, List.take_length]
          obtain ⟨st, hst⟩ : ∃ st, st = (L.filter (btw z z1)).map fun r => r.2.2 := ⟨_, rfl⟩
          have est : ((L.filter (btw z z1)).map fun r => PyData.int r.2.2) = st.map .int := by rw [hst, List.map_map]; rfl
          rw [est]
          have hmem : wd ∈ st := by
            rw [hst]
            exact List.mem_map.mpr ⟨(z, z1, wd), List.mem_filter.mpr ⟨hin2, by simp [btw]⟩, rfl⟩
          have hmin : ∀ v ∈ st, wd ≤ v := fun v hv => by
            rw [hst] at hv
            obtain ⟨r, hr, rfl⟩ := List.mem_map.mp hv
            obtain ⟨h1, h2⟩ := List.mem_filter.mp hr
            obtain ⟨r1, r2, r3⟩ := r
            simp only [btw, Bool.and_eq_true, decide_eq_true_eq] at h2
            obtain ⟨rfl, rfl⟩ := h2
            exact WayOk.least (src := t0.2.2.1) (other := t.1) (zs := zs) hL hmz e2 h1
          have hI : Shp (.list (st.map PyData.int)) 1 := shp_map fun _ _ => shp_int _
          refine xs_seal nm (x := "_law_steps") (by walk_at "sel") (by walk_at "upd") ?_
          refine xs_cons (if_ (kk := false) (by walk_at "fz") ?_ (fun h => by cases h) fun _ => xs_nil ?_)
          · refine xt_pw (xw_or (x := false) (y := false) (XT.is (xt_cmp (by walk_at "x") (by walk_at "x") (cd_eqD nm.hu hI.shaped h0.shaped)) (eqv_nil fun z => by rw [List.map_eq_nil_iff.mp z] at hmem; cases hmem)) fun _ => xw_or1 ?_)
            exact XT.is (xt_cmp (xe_bin (xe_ix (d := stopD (z, t0.2.2.2 + mz)) (by walk_at "x") (by walk_at "x") (by unfold stopD; walk_at "id")) (cbi nm (by walk_at "bi") (by walk_at "has") (by walk_at "has") (by walk_at "x") (cl_min nm.calm hmem hmin)) bd_add) (xe_ix (d := stopD (z1, t0.2.2.2 + (mz + wd))) (xe_ix (d := .list (S.map stopD)) (by walk_at "x") (by walk_at "x") (id_l as1)) (by walk_at "x") (by unfold stopD; walk_at "id")) cd_nei) (by simp; omega)
          refine xs_cons (set nm nd (c := .dat (stopD (z1, t0.2.2.2 + (mz + wd)))) (xe_ix (d := .list (S.map stopD)) (by walk_at "x") (by walk_at "x") (id_l as1)) (by walk_at "upd") ?_)
          refine xs_cons (set nm nd (c := .dat (.int ((A.length + (l + 1) : Nat)))) (XE.is (by walk_at "x") (by rw [show ((A.length + l : Nat) : Int) + 1 = ((A.length + (l + 1) : Nat) : Int) by omega])) (by walk_at "upd") ?_)
          exact xs_nil ⟨zs.length - 1 - (l + 1), by omega, l + 1, z1, _, _, _, rfl, by omega, hz1, e2, rfl⟩
    · have hi0 : i = 0 := by have := of_decide_eq_false hk; omega
      subst hi0
      exact xs_nil ⟨_, _, _, _, by rw [hp.1]; rfl⟩
    rintro _ ⟨a1, a3, a4, a5, rfl⟩
    have hSe : S.map stopD = (A ++ fp i).map stopD ++ ((endsOf t).map stopD ++ rest.map stopD) := by
      rw [hsp, List.map_append, List.map_append, List.map_append, List.map_append, List.append_assoc]
    have hE : Shp (.list ((endsOf t).map stopD)) 2 := shp_map fun q hq => by
      unfold endsOf at hq
      simp only [List.mem_cons, List.not_mem_nil, or_false] at hq
      rcases hq with rfl | rfl
      · exact stop_shp okt.1
      · exact stop_shp okt.2.1
    refine xs_cons (if_ (kk := false) (by walk_at "fz") (XT.is (xt_cmp (d := .list ((endsOf t).map stopD)) (e := .list ((endsOf t).map stopD)) ?_ ?_ (cd_neD nm.hu hE.shaped hE.shaped)) (by rw [eqv_same hE]; rfl)) (fun h => by cases h) fun _ => xs_nil ?_)
    · refine xe_fr (c := .own ((endsOf t).map stopD)) ((xe_slice (ds := S.map stopD) (l := some ((A.length + (fp i).length : Nat) : Int)) (h := some (((A.length + (fp i).length : Nat) : Int) + 2)) (by walk_at "x") ?_ ?_).is ?_)
      · show Fw.XE _ _ _ _
        walk_at "x"
      · show Fw.XE _ _ _ _
        walk_at "x"
      · rw [hSe]
        exact congrArg Cell.own (cutP_mid (by rw [List.length_map, List.length_append]) (by rw [List.length_map, List.length_append, List.length_map]; show _ + 2 = ((_ + 2 : Nat) : Int); omega))
    · refine xe_fr (c := .own _) (xe_list (ds := (endsOf t).map stopD) (xd_cons (d := stopD (t.1, t.2.1)) ?_ (xd_cons (d := stopD (t.2.2.1, t.2.2.2)) ?_ xd_nil)))
      · unfold stopD tripD
        walk_at "x"
      · unfold stopD tripD
        walk_at "x"
    have hnx : A.length + (fp i).length + 2 = (stopsN fp done (i + 1)).length := by
      rw [stops_succ et, ← hA, List.length_append, List.length_append]
      show _ = A.length + ((fp i).length + 2)
      omega
    refine xs_cons (set nm nd (c := .dat (.int ((stopsN fp done (i + 1)).length : Nat))) (XE.is (by walk_at "x") (by rw [← hnx, show ((A.length + (fp i).length : Nat) : Int) + 2 = ((A.length + (fp i).length + 2 : Nat) : Int) by omega])) (by walk_at "upd") (xs_nil ⟨_, _, _, _, _, rfl⟩))
  · rintro _ ⟨a1, a2, a3, a4, a5, rfl⟩
    rw [rangeD_len, show (row.length : Int).toNat = done.length by omega, ← hS]
    exact xs_cons (x_ret (XE.is (xe_cmp (by walk_at "x") (XE.is (by walk_at "x") (by rw [List.length_map])) cd_eqi) (by simp)) rfl)
end
end K8

set_option maxRecDepth 100000
set_option maxHeartbeats 4000000
namespace K8
open PySem PySem.Spec PyProof.Rows L2 Fw Bus
open Dj (Best dist)
local macro_rules | `(tactic| walk_at "sel") => `(tactic| repeat (first | with_reducible apply Sel.z | apply Sel.s))
local macro_rules | `(tactic| walk_at "upd") => `(tactic| repeat (first | with_reducible apply Upd.z | apply Upd.s))
local macro_rules | `(tactic| walk_at "has") => `(tactic| repeat (first | with_reducible apply Has.z | apply Has.s))
local macro_rules | `(tactic| walk_at "fz") => `(tactic| repeat (first | exact Fz.nil | apply Fz.un | apply Fz.dat | apply Fz.scr | apply Fz.rng | apply Fz.dic | apply Fz.ldc | apply Fz.own | apply Fz.odi | apply Fz.any))
local macro_rules | `(tactic| walk_at "bi") => `(tactic| first | with_reducible exact BI.len | with_reducible exact BI.max | with_reducible exact BI.min | with_reducible exact BI.all | with_reducible exact BI.any | with_reducible exact BI.sorted | with_reducible exact BI.sum | with_reducible exact BI.abs)
local macro_rules | `(tactic| walk_at "bt") => `(tactic| first | with_reducible exact BT.list | with_reducible exact BT.tuple | with_reducible exact BT.str | with_reducible exact BT.int | with_reducible exact BT.bool | with_reducible exact BT.dict)
local macro_rules | `(tactic| walk_at "bd") => `(tactic| first | exact bd_add | exact bd_sub | (apply bd_mod <;> try decide) | (apply bd_fdiv <;> try decide) | apply bd_adds | apply bd_muls | apply bd_mul | apply bd_cat)
local macro_rules | `(tactic| walk_at "cd") => `(tactic| first | exact cd_lt | exact cd_le | exact cd_gt | exact cd_ge | exact cd_eqi | exact cd_nei | exact cd_eqs | exact cd_nes | exact cd_inSign | apply cd_eqD (Nm.hu (by assumption)) | apply cd_neD (Nm.hu (by assumption)) | apply cd_inD (Nm.hu5 (by assumption)) | apply cd_notInD (Nm.hu5 (by assumption)))
local macro_rules | `(tactic| walk_at "id") => `(tactic| first | (apply id_l <;> try first | assumption | rfl) | (apply id_t <;> try first | assumption | rfl) | (apply id_s <;> try first | assumption | (show Str.length _ ≤ sizeLine; decide +kernel)))
local macro_rules | `(tactic| walk_at "cl") => `(tactic| first | exact cl_lenL | exact cl_lenT | apply cl_lenS | exact cl_list | exact cl_max2 (Nm.calm (by assumption)) | exact cl_all (Nm.calm (by assumption)))
local macro_rules | `(tactic| walk_at "x") => `(tactic| first
  | exact xe_int | exact xe_str | exact xe_bl | exact xe_non
  | (apply ve; · assumption
     · walk_at "sel")
  | (apply ve'; · assumption
     · walk_at "sel"
     all_goals (first | rfl | (intro z; cases z; done)))
  | (apply gle_int; · assumption
     · walk_at "has"
     · with_reducible assumption)
  | (apply gle_str; · assumption
     · walk_at "has"
     · with_reducible assumption)
  | (show Nm _ _ _ _ _ _ _ _ _ _; assumption)
  | (apply xe_bin <;> try walk_at "x") | walk_at "bd"
  | (apply xt_cmp <;> try walk_at "x") | (apply xe_cmp <;> try walk_at "x") | walk_at "cd"
  | (show behindInMarks _ _ = false; first | exact nomark _ | rfl)
  | (apply xt_not <;> try walk_at "x") | (apply xe_not <;> try walk_at "x")
  | (apply xe_unop <;> try walk_at "x") | exact ud_neg
  | (apply xt_pw; apply xw_and <;> try walk_at "x") | (apply xt_pw; apply xw_or <;> try walk_at "x")
  | (apply xw_and <;> try walk_at "x") | (apply xw_or <;> try walk_at "x") | (apply xw_and1 <;> try walk_at "x") | (apply xw_or1 <;> try walk_at "x")
  | (apply xe_and <;> try walk_at "x") | (apply xe_or <;> try walk_at "x") | (apply xe_one <;> try walk_at "x")
  | (apply cisi; · assumption
     · walk_at "bt"
     · walk_at "has"
     · walk_at "has"
     · walk_at "has"
     · walk_at "has"
     all_goals try walk_at "x")
  | (apply cbi; · assumption
     · walk_at "bi"
     · walk_at "has"
     · walk_at "has"
     all_goals try walk_at "x")
  | (apply cty; · assumption
     · walk_at "bt"
     · walk_at "has"
     · walk_at "has"
     all_goals walk_at "x")
  | (apply xe_fr (c := .own _)
     (apply cty; · assumption
      · walk_at "bt"
      · walk_at "has"
      · walk_at "has"
      all_goals walk_at "x"))
  | (apply cty; · assumption
     · walk_at "bt"
     · walk_at "has"
     · walk_at "has"
     all_goals try walk_at "x")
  | walk_at "cl"
  | exact xd_nil | (apply xd_cons <;> try walk_at "x") | exact xa_nil | (apply xa_c <;> try walk_at "x")
  | (apply xe_list <;> try walk_at "x") | (apply xe_tup <;> try walk_at "x")
  | (apply xe_ix <;> try walk_at "x") | walk_at "id"
  | (show PlainIx _; exact fun _ _ => rfl)
  | (apply xt_chainI op_le op_le <;> try walk_at "x") | (apply xt_chainI op_le op_lt <;> try walk_at "x") | (apply xe_chainI op_le op_le <;> try walk_at "x") | (apply xe_chainI op_le op_lt <;> try walk_at "x")
  | (apply xt_val <;> try walk_at "x")
  | (apply xe_fr (c := .own _) <;> try walk_at "x")
  | (show List.length _ ≤ 100000; exact Nat.le_of_ble_eq_true rfl)
  | (show lastMarks _ _ = false; with_unfolding_all rfl)
  | (show _ = _; rfl)
  | (intro _; walk_at "x"))
open Dj (Best)
structure APlace where
  p : Str
  h : Ok p
structure ASp where
  b : ABus
  p : Str
  hp : Ok p
  l1 : b.rs.length ≤ 100
  l2 : b.ts.length ≤ 100
def spreadD (F : List Dj.Fd) : List (Key × PyData) := F.map fun f => (.inr f.1, .int f.2.1)
abbrev cLookP (K : PySem.W.Frag) : Sp := Con K (fun a : APlace => [.dat (.str a.p)]) (fun _ c => c = .dat .none)
abbrev cSpread (K : PySem.W.Frag) : Sp := Con K (fun a : ASp => a.b.cells ++ [.dat (.str a.p)]) (fun a c => ∃ F, c = .odi (spreadD F) ∧ Best (laid a.b.rs a.b.ts) a.p F)
theorem laid_pos {rs : List Ride} {ts : List Trip} (hr : ∀ r ∈ rs, OkR r) (ht : ∀ t ∈ ts, OkT t) : ∀ r ∈ laid rs ts, 1 ≤ r.2.2 := fun r h => by
  unfold laid at h
  rcases List.mem_append.mp h with h | h
  · have := hr r h
    unfold OkR rideD isRide at this
    simp only [Bool.and_eq_true] at this
    have h2 := this.2
    simp [isWhole] at h2
    omega
  · obtain ⟨t, h1, rfl⟩ := List.mem_map.mp h
    have := ht t (List.mem_filter.mp h1).1
    unfold OkT tripD isTrip at this
    simp only [Bool.and_eq_true, decide_eq_true_eq] at this
    have h2 := this.2
    show 1 ≤ t.2.2.2 - t.2.1
    omega
theorem look_foundAt {h : Str} {m : Int} {b : Str} : ∀ {F : List Dj.Fd} {i : Nat}, (F.map (·.1)).Nodup → F[i]? = some (h, m, b) → lookD (foundD F) (.inr h) = some (.tuple [.int m, .str b]) ∧ lookD (spreadD (F.take i)) (.inr h) = none
  | f :: F, 0, _, e => by
    cases e
    refine ⟨?_, rfl⟩
    unfold lookD foundD
    rw [List.map_cons, List.find?_cons]
    simp
  | f :: F, i + 1, nd, e => by
    rw [List.map_cons, List.nodup_cons] at nd
    have e : F[i]? = some (h, m, b) := e
    obtain ⟨h1, h2⟩ := look_foundAt (i := i) nd.2 e
    have ne : ¬ f.1 = h := fun z => nd.1 (by rw [z]; exact List.mem_map.mpr ⟨_, List.mem_of_getElem? e, rfl⟩)
    have ne' : ¬ (Sum.inr f.1 : Key) = .inr h := fun z => ne (Sum.inr.inj z)
    refine ⟨?_, ?_⟩
    · unfold lookD foundD
      rw [List.map_cons, List.find?_cons]
      simp only [ne', decide_false]
      exact h1
    · rw [List.take_succ_cons]
      unfold lookD spreadD
      rw [List.map_cons, List.find?_cons]
      simp only [ne', decide_false]
      exact h2
theorem best_fl {L : List Dj.Rw} {src : Str} {F : List Dj.Fd} (B : Best L src F) : F.length ≤ L.length + 1 := by
  have h := Dj.nodup_len (m := src :: L.map (·.2.1)) B.nd fun x hx => by
    obtain ⟨f, hf, rfl⟩ := List.mem_map.mp hx
    rcases B.tight f hf with ⟨_, h, _⟩ | ⟨mb, w, bb, _, h, _⟩
    · rw [h]
      exact List.mem_cons_self
    · exact List.mem_cons_of_mem _ (List.mem_map.mpr ⟨_, h, rfl⟩)
  rw [List.length_map, List.length_cons, List.length_map] at h
  exact h
section
variable {P : Program} {w : World} {K : PySem.W.Frag} {mg : Str → Option Value} {base : Heap}
theorem ok_look_at_place {f : Addr} {fd : FuncData} {k : Nat} (F : Fun K "look_at_place" "look_at_place" s_look_at_place f fd) (hb : Bl mg) {j : Nat} (hj : j ≤ k) (CP : Cal P w K mg base "is_place" j (cIsPlace K)) : FnOk P w K mg base CX0 (k + 1) f fd ["thing"] (cLookP K) := by
  refine fn_con F sc_look_at_place (fun _ => rfl) fun cdv A outer s H E hr a => ?_
  obtain ⟨nm, nd⟩ := nm_look_at_place (P := P) (w := w) (K := K) (mg := mg) (base := base) (outer := outer) (H := H) (E := E) hb hr
  show XSs _ [.dat (.str a.p)] _ _
  have hok : isPlace (.str a.p) = true := a.h
  refine xs_cons (if_ (kk := false) (by walk_at "fz") (XT.is (xt_not (xt_val (calE nm CP hj (by walk_at "has") ⟨.str a.p, a.h.short⟩ ?_))) (by rw [hok]; rfl)) (fun h => by cases h) fun _ => ?_)
  · walk_at "x"
  · exact xs_nil (xs_nil rfl)
theorem ok_spread {f : Addr} {fd : FuncData} {k : Nat} (F : Fun K "spread" "spread" s_spread f fd) (hb : Bl mg) {j : Nat} (hj : j ≤ k) (CL : Cal P w K mg base "look_at_lists" j (cLook K)) (CP : Cal P w K mg base "look_at_place" j (cLookP K))
    (CR : Cal P w K mg base "laid_roads" j (cRoads K)) (CE : Cal P w K mg base "explored" j (cExplored K)) : FnOk P w K mg base CX0 (k + 1) f fd ["rides", "trips", "place"] (cSpread K) := by
  refine fn_con F sc_spread (fun _ => rfl) fun cdv A outer s H E hr a => ?_
  obtain ⟨nm, nd⟩ := nm_spread (P := P) (w := w) (K := K) (mg := mg) (base := base) (outer := outer) (H := H) (E := E) hb hr
  obtain ⟨b, p, hp, l1, l2⟩ := a
  show XSs _ [.dat (.list (b.rs.map rideD)), .dat (.list (b.ts.map tripD)), .dat (.str p), .un, .un] _ _
  refine xs_cons (x_exprP (cal nm CL hj (by walk_at "has") b (by walk_at "x")) fun _ => ?_)
  refine xs_cons (x_exprP (cal nm CP hj (by walk_at "has") ⟨p, hp⟩ (by walk_at "x")) fun _ => ?_)
  have hl := laid_len b.rs b.ts
  have hpos := laid_pos b.hr b.ht
  refine xs_cons (setF nm nd (cal nm CE hj (by walk_at "has") ⟨laid b.rs b.ts, p, by omega, fun r hr => by have := hpos r hr; omega⟩ (xa_c (xe_fr (c := .own ((laid b.rs b.ts).map rideD)) (calE nm CR hj (by walk_at "has") b (by walk_at "x"))) rfl (xa_c (by walk_at "x") rfl xa_nil))) (by walk_at "upd") (by rintro _ ⟨_, rfl, _⟩ z; cases z) ?_)
  rintro _ ⟨F, rfl, B⟩
  show ∃ cs', Upd _ _ _ (.dic (foundD F)) cs' ∧ _
  refine ⟨_, by walk_at "upd", ?_⟩
  have fl : (foundD F).length = F.length := by unfold foundD; rw [List.length_map]
  have bf : F.length ≤ (laid b.rs b.ts).length + 1 := best_fl B
  refine xs_cons (x_ret (c := .odi (spreadD F)) ((dck nm (N := N_spread) (sc := defScope s_spread) (kvs := foundD F) rfl rfl 4 (fun i => spreadD (F.take i)) rfl (by omega) (.dat (.dat (.dat (.dic (.un .nil))))) (by walk_at "sel") (by decide +kernel) ?_).is (by rw [fl, List.take_length])) ⟨F, rfl, B⟩)
  intro i d hd
  unfold keysD foundD at hd
  rw [List.map_map, List.getElem?_map] at hd
  obtain ⟨⟨h, m, bb⟩, hf, rfl⟩ := Option.map_eq_some_iff.mp hd
  obtain ⟨k1, k2⟩ := look_foundAt B.nd hf
  refine ⟨.str h, .inr h, .int m, fun B' => ?_, rfl, fun B' => ?_, ?_⟩
  · refine blk nm N_spread (defScope s_spread) [none, none, none, some "found", some "there"] [] rfl rfl (by decide +kernel) fun nmb => ?_
    show XE _ [.dat (.list (b.rs.map rideD)), .dat (.list (b.ts.map tripD)), .dat (.str p), .ldc (foundD F), .dat (.str h)] _ _
    walk_at "x"
  · refine blk nm N_spread (defScope s_spread) [none, none, none, some "found", some "there"] [] rfl rfl (by decide +kernel) fun nmb => ?_
    show XE _ [.dat (.list (b.rs.map rideD)), .dat (.list (b.ts.map tripD)), .dat (.str p), .ldc (foundD F), .dat (.str h)] _ _
    refine xe_ix (d := .tuple [.int m, .str bb]) (xe_dg nmb (kvs := foundD F) (kd := .str h) (by walk_at "x") (by walk_at "x") rfl k1) (by walk_at "x") (by walk_at "id")
  · show spreadD (F.take (i + 1)) = _
    rw [put_new k2, List.take_add_one, hf]
    unfold spreadD
    rw [List.map_append]
    rfl
end
end K8

set_option maxRecDepth 100000
set_option maxHeartbeats 4000000
/-! pairing trips: what is found from those that want a next one; handing on; Koenig -/
namespace Kg
abbrev Fn := Nat → Option Nat
def put (f : Fn) (i j : Nat) : Fn := fun x => if x = i then some j else f x
/-- next ones and those ahead, the one the other's inverse -/
structure Mt (b : Nat → List Nat) (nx ah : Fn) : Prop where
  na : ∀ i j, nx i = some j → ah j = some i
  an : ∀ i j, ah j = some i → nx i = some j
  ed : ∀ i j, nx i = some j → j ∈ b i
abbrev Fd := Nat × Nat
def keys (F : List Fd) : List Nat := F.map (·.1)
/-- one is among those that want a next one, or would hand it over -/
def Lf (S : Nat → Prop) (ah : Fn) (F : List Fd) (one : Nat) : Prop := S one ∨ ∃ o ∈ keys F, ah o = some one
/-- found so far; W waits, of u the first ones are looked at -/
structure Rch (n : Nat) (b : Nat → List Nat) (ah : Fn) (S : Nat → Prop) (F : List Fd) (W : List Nat) (u : Option (Nat × Nat)) : Prop where
  nd : (keys F).Nodup
  ent : ∀ (p : Nat) o one, F[p]? = some (o, one) → o ∈ b one ∧ (S one ∨ ∃ q o' x, q < p ∧ F[q]? = some (o', x) ∧ ah o' = some one)
  clo : ∀ one, Lf S ah F one → one ∈ W ∨ (∃ i, u = some (one, i) ∧ ∀ o ∈ (b one).take i, o ∈ keys F) ∨ ∀ o ∈ b one, o ∈ keys F
  wl : ∀ one ∈ W, Lf S ah F one
  lt : ∀ o ∈ keys F, o < n
  ul : ∀ one i, u = some (one, i) → Lf S ah F one
section
variable {n : Nat} {b : Nat → List Nat} {nx ah : Fn} {S : Nat → Prop} {F : List Fd} {W : List Nat} {one i : Nat}
theorem Rch.fl (I : Rch n b ah S F W u) : F.length ≤ n := by
  have := Dj.nodup_len (m := List.range n) I.nd fun x hx => List.mem_range.mpr (I.lt x hx)
  unfold keys at this
  rw [List.length_map, List.length_range] at this
  exact this
theorem Rch.start {W : List Nat} (h : ∀ x, S x ↔ x ∈ W) : Rch n b ah S [] W none :=
  ⟨.nil, (fun p o one h => by simp at h), fun one h => .inl (by
    rcases h with h | ⟨o, ho, _⟩
    · exact (h_ h).1
    · cases ho), fun one hw => .inl ((h one).mpr hw), (fun o h => by cases h), (fun one i h => by cases h)⟩
where h_ {x : Nat} (hs : S x) : x ∈ W ∧ True := ⟨(h x).mp hs, trivial⟩
/-- one is taken from those that wait -/
theorem Rch.pop (I : Rch n b ah S F (W ++ [one]) none) : Rch n b ah S F W (some (one, 0)) :=
  ⟨I.nd, I.ent, fun x h => by
    rcases I.clo x h with h | ⟨i, h, _⟩ | h
    · rcases List.mem_append.mp h with h | h
      · exact .inl h
      · rw [List.mem_singleton.mp h]
        exact .inr (.inl ⟨0, rfl, fun o ho => by rw [List.take_zero] at ho; cases ho⟩)
    · cases h
    · exact .inr (.inr h), fun x h => I.wl x (List.mem_append_left _ h), I.lt, fun x i h => by
    cases h
    exact I.wl _ (List.mem_append_right _ List.mem_cons_self)⟩
/-- one more of those behind it is looked at: found already -/
theorem Rch.skip (I : Rch n b ah S F W (some (one, i))) {o : Nat} (ho : (b one)[i]? = some o) (hk : o ∈ keys F) : Rch n b ah S F W (some (one, i + 1)) :=
  ⟨I.nd, I.ent, fun x h => by
    rcases I.clo x h with h | ⟨j, e, h⟩ | h
    · exact .inl h
    · cases e
      refine .inr (.inl ⟨i + 1, rfl, fun y hy => ?_⟩)
      rw [List.take_add_one, ho] at hy
      rcases List.mem_append.mp hy with hy | hy
      · exact h y hy
      · rw [List.mem_singleton.mp hy]
        exact hk
    · exact .inr (.inr h), I.wl, I.lt, fun x j h => by
    cases h
    exact I.ul _ _ rfl⟩
/-- .. a new one -/
theorem Rch.new (I : Rch n b ah S F W (some (one, i))) {o : Nat} (ho : (b one)[i]? = some o) (hk : o ∉ keys F) (hlt : o < n) : Rch n b ah S (F ++ [(o, one)]) (W ++ (ah o).toList) (some (one, i + 1)) := by
  have sub : ∀ x, x ∈ keys F → x ∈ keys (F ++ [(o, one)]) := fun x hx => by
    unfold keys
    rw [List.map_append]
    exact List.mem_append_left _ hx
  have new : o ∈ keys (F ++ [(o, one)]) := by
    unfold keys
    rw [List.map_append]
    exact List.mem_append_right _ List.mem_cons_self
  have lf : ∀ x, Lf S ah F x → Lf S ah (F ++ [(o, one)]) x := fun x h => by
    rcases h with h | ⟨o', h1, h2⟩
    · exact .inl h
    · exact .inr ⟨o', sub _ h1, h2⟩
  refine ⟨?_, fun p o' x h => ?_, fun x h => ?_, fun x h => ?_, fun x h => ?_, fun x j h => ?_⟩
  · unfold keys
    rw [List.map_append, List.nodup_append]
    refine ⟨I.nd, by simp, fun x hx y hy e => ?_⟩
    rw [List.map_cons, List.map_nil, List.mem_singleton] at hy
    subst hy
    subst e
    exact hk hx
  · by_cases c : p < F.length
    · rw [List.getElem?_append_left c] at h
      obtain ⟨h1, h2⟩ := I.ent p o' x h
      refine ⟨h1, ?_⟩
      rcases h2 with h2 | ⟨q, o2, y, hq, e1, e2⟩
      · exact .inl h2
      · exact .inr ⟨q, o2, y, hq, by rw [List.getElem?_append_left (by omega)]; exact e1, e2⟩
    · have hp : p = F.length := by
        have := (List.getElem?_eq_some_iff.mp h).1
        rw [List.length_append, List.length_singleton] at this
        omega
      subst hp
      rw [List.getElem?_append_right (Nat.le_refl _), Nat.sub_self] at h
      cases h
      refine ⟨List.mem_of_getElem? ho, ?_⟩
      rcases I.ul _ _ rfl with h | ⟨o2, h1, h2⟩
      · exact .inl h
      · unfold keys at h1
        obtain ⟨f, hf, rfl⟩ := List.mem_map.mp h1
        obtain ⟨q, hq⟩ := List.mem_iff_getElem?.mp hf
        have := (List.getElem?_eq_some_iff.mp hq).1
        exact .inr ⟨q, f.1, f.2, this, by rw [List.getElem?_append_left this]; exact hq, h2⟩
  · have hx : Lf S ah F x ∨ ah o = some x := by
      rcases h with h | ⟨o', h1, h2⟩
      · exact .inl (.inl h)
      · unfold keys at h1
        rw [List.map_append] at h1
        rcases List.mem_append.mp h1 with h1 | h1
        · exact .inl (.inr ⟨o', h1, h2⟩)
        · rw [List.map_cons, List.map_nil, List.mem_singleton] at h1
          subst h1
          exact .inr h2
    rcases hx with hx | hx
    · rcases I.clo x hx with h | ⟨j, e, h⟩ | h
      · exact .inl (List.mem_append_left _ h)
      · cases e
        refine .inr (.inl ⟨i + 1, rfl, fun y hy => ?_⟩)
        rw [List.take_add_one, ho] at hy
        rcases List.mem_append.mp hy with hy | hy
        · exact sub _ (h y hy)
        · rw [List.mem_singleton.mp hy]
          exact new
      · exact .inr (.inr fun y hy => sub _ (h y hy))
    · exact .inl (List.mem_append_right _ (by rw [hx]; exact List.mem_cons_self))
  · rcases List.mem_append.mp h with h | h
    · exact lf x (I.wl x h)
    · refine .inr ⟨o, new, ?_⟩
      cases e : ah o with
      | none => rw [e] at h; cases h
      | some y =>
        rw [e] at h
        rw [List.mem_singleton.mp h]
  · unfold keys at h
    rw [List.map_append] at h
    rcases List.mem_append.mp h with h | h
    · exact I.lt x h
    · rw [List.map_cons, List.map_nil, List.mem_singleton] at h
      rw [h]
      exact hlt
  · cases h
    exact lf _ (I.ul _ _ rfl)
/-- all behind it are looked at -/
theorem Rch.over (I : Rch n b ah S F W (some (one, (b one).length))) : Rch n b ah S F W none :=
  ⟨I.nd, I.ent, fun x h => by
    rcases I.clo x h with h | ⟨j, e, h⟩ | h
    · exact .inl h
    · cases e
      rw [List.take_length] at h
      exact .inr (.inr h)
    · exact .inr (.inr h), I.wl, I.lt, fun x j h => by cases h⟩
end
/-- all that is found -/
structure Reach (n : Nat) (b : Nat → List Nat) (ah : Fn) (S : Nat → Prop) (F : List Fd) : Prop where
  nd : (keys F).Nodup
  ent : ∀ (p : Nat) o one, F[p]? = some (o, one) → o ∈ b one ∧ (S one ∨ ∃ q o' x, q < p ∧ F[q]? = some (o', x) ∧ ah o' = some one)
  clo : ∀ one, Lf S ah F one → ∀ o ∈ b one, o ∈ keys F
  lt : ∀ o ∈ keys F, o < n
theorem Rch.fin {n : Nat} {b : Nat → List Nat} {ah : Fn} {S : Nat → Prop} {F : List Fd} (I : Rch n b ah S F [] none) : Reach n b ah S F :=
  ⟨I.nd, I.ent, fun one h => by
    rcases I.clo one h with h | ⟨_, h, _⟩ | h
    · cases h
    · cases h
    · exact h, I.lt⟩
/-- who is not to be helped: closed, all found ones have one ahead -/
structure Dead (b : Nat → List Nat) (ah : Fn) (DL DR : Nat → Prop) : Prop where
  out : ∀ l, DL l → ∀ o ∈ b l, DR o
  back : ∀ r, DR r → ∃ l, ah r = some l ∧ DL l
/-- all that is found from dead ones is dead -/
theorem Reach.dead {n : Nat} {b : Nat → List Nat} {ah : Fn} {S : Nat → Prop} {F : List Fd} {DL DR : Nat → Prop} (R : Reach n b ah S F) (D : Dead b ah DL DR) (h : ∀ x, S x → DL x) : ∀ (p : Nat) o one, F[p]? = some (o, one) → DR o ∧ DL one := fun p => by
  induction p using Nat.strongRecOn with
  | _ p ih =>
    intro o one hp
    obtain ⟨h1, h2⟩ := R.ent p o one hp
    have hl : DL one := by
      rcases h2 with h2 | ⟨q, o', x, hq, e1, e2⟩
      · exact h _ h2
      · obtain ⟨l, e3, e4⟩ := D.back o' (ih q hq o' x e1).1
        rw [e2] at e3
        cases e3
        exact e4
    exact ⟨D.out _ hl _ h1, hl⟩
/-- a failing search is dead -/
theorem Reach.fail {n : Nat} {b : Nat → List Nat} {ah : Fn} {S : Nat → Prop} {F : List Fd} {DL DR : Nat → Prop} (R : Reach n b ah S F) (D : Dead b ah DL DR) (h : ∀ o ∈ keys F, ah o ≠ none) : Dead b ah (fun l => DL l ∨ Lf S ah F l) (fun r => DR r ∨ r ∈ keys F) :=
  ⟨fun l hl o ho => by
    rcases hl with hl | hl
    · exact .inl (D.out l hl o ho)
    · exact .inr (R.clo l hl o ho), fun r hr => by
    rcases hr with hr | hr
    · obtain ⟨l, h1, h2⟩ := D.back r hr
      exact ⟨l, h1, .inl h2⟩
    · cases e : ah r with
      | none => exact absurd e (h r hr)
      | some l => exact ⟨l, rfl, .inr (.inr ⟨r, hr, e⟩)⟩⟩
/-- handing on, under way: o is to go to the one it is meant for -/
structure Flip (b : Nat → List Nat) (nx0 ah0 : Fn) (y : Nat) (F : List Fd) (DR : Nat → Prop) (nx ah : Fn) (p o : Nat) : Prop where
  at_ : ∃ x, F[p]? = some (o, x)
  na : ∀ i j, nx i = some j → ah j = some i
  an : ∀ i j, ah j = some i → j ≠ o → nx i = some j
  ed : ∀ i j, nx i = some j → j ∈ b i
  no : ∀ i, nx i ≠ some o
  old : ∀ i g q x, nx0 i = some g → F[q]? = some (g, x) → q < p → nx i = some g
  yn : nx y = none
  m : ∀ i, i ≠ y → (nx i = none ↔ nx0 i = none)
  aN : ∀ j, ah0 j ≠ none → ah j ≠ none
  dr : ∀ r, DR r → ah r = ah0 r
  od : ¬ DR o
/-- .. and done -/
structure Flipped (b : Nat → List Nat) (nx0 ah0 : Fn) (y : Nat) (DR : Nat → Prop) (nx ah : Fn) : Prop where
  mt : Mt b nx ah
  m : ∀ i, i ≠ y → (nx i = none ↔ nx0 i = none)
  dr : ∀ r, DR r → ah r = ah0 r
  ym : nx y ≠ none
section
variable {n : Nat} {b : Nat → List Nat} {nx0 ah0 nx ah : Fn} {y : Nat} {F : List Fd} {DL DR : Nat → Prop} {p o : Nat}
theorem Flip.start (M : Mt b nx0 ah0) (hy : nx0 y = none) (D : Dead b ah0 DL DR) (hp : ∃ x, F[p]? = some (o, x)) (hf : ah0 o = none) : Flip b nx0 ah0 y F DR nx0 ah0 p o :=
  ⟨hp, M.na, fun i j h _ => M.an i j h, M.ed, (fun i h => by rw [M.na i o h] at hf; cases hf), fun i g q x h _ _ => h, hy, fun _ _ => Iff.rfl, fun _ h => h, fun _ _ => rfl, fun z => by
    obtain ⟨l, e, _⟩ := D.back o z
    rw [hf] at e
    cases e⟩
/-- one step: x gets o; what it had goes on -/
theorem Flip.step (M : Mt b nx0 ah0) (hy : nx0 y = none) (R : Reach n b ah0 (fun x => x = y) F) (D : Dead b ah0 DL DR) (I : Flip b nx0 ah0 y F DR nx ah p o) {x : Nat} (hx : F[p]? = some (o, x)) :
    (nx x = none ∧ Flipped b nx0 ah0 y DR (put nx x o) (put ah o x)) ∨ ∃ g q, nx x = some g ∧ q < p ∧ Flip b nx0 ah0 y F DR (put nx x o) (put ah o x) q g := by
  obtain ⟨hb, hs⟩ := R.ent p o x hx
  have ps : ∀ {f : Fn} {i j : Nat}, put f i j i = some j := fun {f i j} => if_pos rfl
  have pn : ∀ {f : Fn} {i j k : Nat}, k ≠ i → put f i j k = f k := fun {f i j k} h => if_neg h
  rcases hs with hs | ⟨q, g, z, hq, e1, e2⟩
  · subst hs
    refine .inl ⟨I.yn, ⟨fun i j h => ?_, fun i j h => ?_, fun i j h => ?_⟩, fun i hi => ?_, fun r hr => ?_, by rw [ps]; intro z; cases z⟩
    · by_cases c : i = x
      · subst c
        rw [ps] at h
        cases h
        exact ps
      · rw [pn c] at h
        rw [pn (fun z => I.no i (by rw [← z]; exact h))]
        exact I.na i j h
    · by_cases c : j = o
      · subst c
        rw [ps] at h
        cases h
        exact ps
      · rw [pn c] at h
        have h2 := I.an i j h c
        rw [pn (fun z => by rw [z, I.yn] at h2; cases h2)]
        exact h2
    · by_cases c : i = x
      · subst c
        rw [ps] at h
        cases h
        exact hb
      · rw [pn c] at h
        exact I.ed i j h
    · rw [pn hi]
      exact I.m i hi
    · rw [pn (fun z => I.od (by rw [← z]; exact hr))]
      exact I.dr r hr
  · have hnx0 : nx0 x = some g := M.an x g e2
    have hnx : nx x = some g := I.old x g q z hnx0 e1 hq
    have xy : x ≠ y := fun c => by
      rw [c, hy] at hnx0
      cases hnx0
    have go : g ≠ o := fun c => I.no x (by rw [← c]; exact hnx)
    refine .inr ⟨g, q, hnx, hq, ⟨⟨z, e1⟩, fun i j h => ?_, fun i j h hj => ?_, fun i j h => ?_, fun i h => ?_, fun i g' q' z' h1 h2 h3 => ?_, ?_, fun i hi => ?_, fun j hj => ?_, fun r hr => ?_, fun hg => ?_⟩⟩
    · by_cases c : i = x
      · subst c
        rw [ps] at h
        cases h
        exact ps
      · rw [pn c] at h
        rw [pn (fun z => I.no i (by rw [← z]; exact h))]
        exact I.na i j h
    · by_cases c : j = o
      · subst c
        rw [ps] at h
        cases h
        exact ps
      · rw [pn c] at h
        have h2 := I.an i j h c
        have : i ≠ x := fun z => by
          rw [z, hnx] at h2
          cases h2
          exact hj rfl
        rw [pn this]
        exact h2
    · by_cases c : i = x
      · subst c
        rw [ps] at h
        cases h
        exact hb
      · rw [pn c] at h
        exact I.ed i j h
    · by_cases c : i = x
      · subst c
        rw [ps] at h
        cases h
        exact go rfl
      · rw [pn c] at h
        have h1 := I.na i g h
        have h2 := I.na x g hnx
        rw [h1] at h2
        cases h2
        exact c rfl
    · have c : i ≠ x := fun c => by
        subst c
        rw [hnx0] at h1
        cases h1
        have : q' = q := by
          have k1 : (keys F)[q']? = some g := by unfold keys; rw [List.getElem?_map, h2]; rfl
          have k2 : (keys F)[q]? = some g := by unfold keys; rw [List.getElem?_map, e1]; rfl
          have l1 := (List.getElem?_eq_some_iff.mp k1).1
          exact (List.getElem?_inj l1 R.nd).mp (by rw [k1, k2])
        omega
      rw [pn c]
      exact I.old i g' q' z' h1 h2 (by omega)
    · rw [pn (fun z => xy z.symm)]
      exact I.yn
    · by_cases c : i = x
      · subst c
        rw [ps, hnx0]
        exact ⟨(fun z => by cases z), (fun z => by cases z)⟩
      · rw [pn c]
        exact I.m i hi
    · by_cases c : j = o
      · subst c
        rw [ps]
        intro z
        cases z
      · rw [pn c]
        exact I.aN j hj
    · rw [pn (fun z => I.od (by rw [← z]; exact hr))]
      exact I.dr r hr
    · obtain ⟨l, h1, h2⟩ := D.back g hg
      rw [e2] at h1
      cases h1
      exact I.od (D.out x h2 o hb)
theorem Flipped.dead (Z : Flipped b nx0 ah0 y DR nx ah) (D : Dead b ah0 DL DR) : Dead b ah DL DR := ⟨D.out, fun r hr => by
  obtain ⟨l, h1, h2⟩ := D.back r hr
  exact ⟨l, by rw [Z.dr r hr]; exact h1, h2⟩⟩
end
end Kg

set_option maxRecDepth 100000
set_option maxHeartbeats 4000000
/-! Koenig: as many stand apart as there are rows; the rows -/
namespace Kg
theorem len_bij {l m : List Nat} (hl : l.Nodup) (hm : m.Nodup) (f g : Nat → Nat) (h1 : ∀ x ∈ l, f x ∈ m ∧ g (f x) = x) (h2 : ∀ y ∈ m, g y ∈ l ∧ f (g y) = y) : l.length = m.length := by
  have key : ∀ {l m : List Nat} {f g : Nat → Nat}, l.Nodup → (∀ x ∈ l, f x ∈ m ∧ g (f x) = x) → l.length ≤ m.length := fun {l m f g} hl h => by
    have := Dj.nodup_len (l := l.map f) (m := m) (by
      unfold List.Nodup
      rw [List.pairwise_map]
      refine List.Pairwise.imp_of_mem ?_ hl
      intro x y hx hy hne e
      exact hne (by rw [← (h x hx).2, ← (h y hy).2, e])) fun z hz => by
        obtain ⟨x, hx, rfl⟩ := List.mem_map.mp hz
        exact (h x hx).1
    rw [List.length_map] at this
    exact this
  exact Nat.le_antisymm (key hl h1) (key hm h2)
theorem len_same {l m : List Nat} (hl : l.Nodup) (hm : m.Nodup) (h : ∀ x, x ∈ l ↔ x ∈ m) : l.length = m.length := len_bij hl hm id id (fun x hx => ⟨(h x).mp hx, rfl⟩) (fun x hx => ⟨(h x).mpr hx, rfl⟩)
theorem nodup_filter {l : List Nat} {p : Nat → Bool} (h : l.Nodup) : (l.filter p).Nodup := List.Pairwise.filter p h
theorem len_split {l : List Nat} {p : Nat → Bool} : (l.filter p).length + (l.filter fun x => !p x).length = l.length := by
  induction l with
  | nil => rfl
  | cons a l ih =>
    cases e : p a with
    | true =>
      rw [List.filter_cons_of_pos e, List.filter_cons_of_neg (by rw [e]; decide), List.length_cons, List.length_cons]
      omega
    | false =>
      rw [List.filter_cons_of_neg (by rw [e]; decide), List.filter_cons_of_pos (by rw [e]; rfl), List.length_cons, List.length_cons]
      omega
section
variable {n : Nat} {b : Nat → List Nat} {nx ah : Fn} {F : List Fd}
/-- those that want a next one, or would hand theirs over -/
def wants (n : Nat) (nx : Fn) (F : List Fd) : List Nat := (List.range n).filter fun i => (nx i).isNone || ((nx i).any fun j => decide (j ∈ keys F))
def apartL (n : Nat) (nx : Fn) (F : List Fd) : List Nat := (wants n nx F).filter fun i => !decide (i ∈ keys F)
def startL (n : Nat) (ah : Fn) : List Nat := (List.range n).filter fun j => (ah j).isNone
theorem range_nodup {n : Nat} : (List.range n).Nodup := List.nodup_range
theorem koenig (M : Mt b nx ah) (hb : ∀ i j, i < n → j ∈ b i → j < n) (hlt : ∀ i j, nx i = some j → i < n) (tr : ∀ i j l, j ∈ b i → l ∈ b j → l ∈ b i)
    (R : Reach n b ah (fun x => x < n ∧ nx x = none) F) (hm : ∀ o ∈ keys F, ah o ≠ none) : (apartL n nx F).length = (startL n ah).length ∧ (∀ i ∈ apartL n nx F, i < n) ∧ ∀ i ∈ apartL n nx F, ∀ j ∈ apartL n nx F, j ∉ b i := by
  have lf : ∀ i, i ∈ wants n nx F → Lf (fun x => x < n ∧ nx x = none) ah F i := fun i h => by
    obtain ⟨h1, h2⟩ := List.mem_filter.mp h
    rw [List.mem_range] at h1
    cases e : nx i with
    | none => exact .inl ⟨h1, e⟩
    | some j =>
      rw [e] at h2
      have h2 : (false || decide (j ∈ keys F)) = true := h2
      rw [Bool.false_or, decide_eq_true_eq] at h2
      exact .inr ⟨j, h2, M.na _ _ e⟩
  have kl : ∀ o ∈ keys F, ∃ i, ah o = some i ∧ nx i = some o := fun o ho => by
    cases e : ah o with
    | none => exact absurd e (hm o ho)
    | some i => exact ⟨i, rfl, M.an _ _ e⟩
  have kw : ∀ o ∈ keys F, o ∈ wants n nx F := fun o ho => by
    refine List.mem_filter.mpr ⟨List.mem_range.mpr (R.lt o ho), ?_⟩
    cases e : nx o with
    | none => rfl
    | some q =>
      show (false || decide (q ∈ keys F)) = true
      rw [Bool.false_or, decide_eq_true_eq]
      unfold keys at ho
      obtain ⟨f, hf, rfl⟩ := List.mem_map.mp ho
      obtain ⟨p, hp⟩ := List.mem_iff_getElem?.mp hf
      obtain ⟨h1, h2⟩ := R.ent p f.1 f.2 hp
      have hl : Lf (fun x => x < n ∧ nx x = none) ah F f.2 := by
        rcases h2 with h2 | ⟨q2, o', x, _, e1, e2⟩
        · exact .inl h2
        · exact .inr ⟨o', by unfold keys; exact List.mem_map.mpr ⟨_, List.mem_of_getElem? e1, rfl⟩, e2⟩
      exact R.clo _ hl _ (tr _ _ _ h1 (M.ed _ _ e))
  have wnd : (wants n nx F).Nodup := nodup_filter range_nodup
  refine ⟨?_, fun i hi => ?_, fun i hi j hj hjb => ?_⟩
  · -- the count
    have c1 := len_split (l := wants n nx F) (p := fun i => !decide (i ∈ keys F))
    have c2 : ((wants n nx F).filter fun i => !!decide (i ∈ keys F)).length = (keys F).length := len_same (nodup_filter wnd) R.nd fun x => by
      rw [List.mem_filter]
      simp only [Bool.not_not, decide_eq_true_eq]
      exact ⟨fun h => h.2, fun h => ⟨kw x h, h⟩⟩
    have c3 := len_split (l := wants n nx F) (p := fun i => (nx i).isNone)
    have c4 : ((wants n nx F).filter fun i => !(nx i).isNone).length = (keys F).length := len_bij (nodup_filter wnd) R.nd (fun i => (nx i).getD 0) (fun o => (ah o).getD 0) (fun x hx => by
      obtain ⟨h1, h2⟩ := List.mem_filter.mp hx
      obtain ⟨_, h3⟩ := List.mem_filter.mp h1
      cases e : nx x with
      | none => rw [e] at h2; cases h2
      | some j =>
        rw [e] at h3
        have h3 : (false || decide (j ∈ keys F)) = true := h3
        rw [Bool.false_or, decide_eq_true_eq] at h3
        show j ∈ keys F ∧ (ah j).getD 0 = x
        rw [M.na _ _ e]
        exact ⟨h3, rfl⟩) (fun o ho => by
      obtain ⟨i, h1, h2⟩ := kl o ho
      rw [h1]
      show i ∈ _ ∧ (nx i).getD 0 = o
      rw [h2]
      refine ⟨List.mem_filter.mpr ⟨List.mem_filter.mpr ⟨List.mem_range.mpr (hlt _ _ h2), ?_⟩, by rw [h2]; rfl⟩, rfl⟩
      rw [h2]
      show (false || decide (o ∈ keys F)) = true
      rw [Bool.false_or, decide_eq_true_eq]
      exact ho)
    have c5 : ((wants n nx F).filter fun i => (nx i).isNone).length = ((List.range n).filter fun i => (nx i).isNone).length := len_same (nodup_filter wnd) (nodup_filter range_nodup) fun x => by
      rw [List.mem_filter, List.mem_filter]
      unfold wants
      rw [List.mem_filter]
      exact ⟨fun h => ⟨h.1.1, h.2⟩, fun h => ⟨⟨h.1, by rw [h.2]; rfl⟩, h.2⟩⟩
    have c6 := len_split (l := List.range n) (p := fun i => (nx i).isNone)
    have c7 := len_split (l := List.range n) (p := fun j => (ah j).isNone)
    have c8 : ((List.range n).filter fun i => !(nx i).isNone).length = ((List.range n).filter fun j => !(ah j).isNone).length := len_bij (nodup_filter range_nodup) (nodup_filter range_nodup) (fun i => (nx i).getD 0) (fun o => (ah o).getD 0) (fun x hx => by
      obtain ⟨h1, h2⟩ := List.mem_filter.mp hx
      rw [List.mem_range] at h1
      cases e : nx x with
      | none => rw [e] at h2; cases h2
      | some j =>
        show j ∈ _ ∧ (ah j).getD 0 = x
        rw [M.na _ _ e]
        exact ⟨List.mem_filter.mpr ⟨List.mem_range.mpr (hb _ _ h1 (M.ed _ _ e)), by rw [M.na _ _ e]; rfl⟩, rfl⟩) (fun o ho => by
      obtain ⟨h1, h2⟩ := List.mem_filter.mp ho
      cases e : ah o with
      | none => rw [e] at h2; cases h2
      | some i =>
        have e2 := M.an _ _ e
        show i ∈ _ ∧ (nx i).getD 0 = o
        rw [e2]
        exact ⟨List.mem_filter.mpr ⟨List.mem_range.mpr (hlt _ _ e2), by rw [e2]; rfl⟩, rfl⟩)
    unfold apartL startL
    omega
  · obtain ⟨h1, _⟩ := List.mem_filter.mp hi
    obtain ⟨h1, _⟩ := List.mem_filter.mp h1
    exact List.mem_range.mp h1
  · obtain ⟨h1, _⟩ := List.mem_filter.mp hi
    obtain ⟨_, h2⟩ := List.mem_filter.mp hj
    have := R.clo i (lf i h1) j hjb
    rw [decide_eq_true this] at h2
    cases h2
/-! rows -/
inductive Chain (nx : Fn) : Nat → List Nat → Prop
  | last {i : Nat} : nx i = none → Chain nx i [i]
  | step {i j : Nat} {r : List Nat} : nx i = some j → Chain nx j r → Chain nx i (i :: r)
theorem Chain.uniq {i : Nat} {r : List Nat} (h : Chain nx i r) : ∀ {r' : List Nat}, Chain nx i r' → r = r' := by
  induction h with
  | last e =>
    intro r' h'
    cases h' with
    | last _ => rfl
    | step e' _ => rw [e] at e'; cases e'
  | step e _ ih =>
    intro r' h'
    cases h' with
    | last e' => rw [e] at e'; cases e'
    | step e' h' =>
      rw [e] at e'
      cases e'
      rw [ih h']
theorem chain_ex (rk : Nat → Nat) (hr : ∀ i j, nx i = some j → rk j < rk i) : ∀ (m i : Nat), rk i ≤ m → ∃ r, Chain nx i r := fun m => by
  induction m with
  | zero =>
    intro i hi
    cases e : nx i with
    | none => exact ⟨_, .last e⟩
    | some j =>
      have := hr i j e
      omega
  | succ m ih =>
    intro i hi
    cases e : nx i with
    | none => exact ⟨_, .last e⟩
    | some j =>
      have := hr i j e
      obtain ⟨r, h⟩ := ih j (by omega)
      exact ⟨_, .step e h⟩
open Classical in
noncomputable def rowOf (nx : Fn) (i : Nat) : List Nat := if h : ∃ r, Chain nx i r then choose h else []
theorem Chain.row {i : Nat} {r : List Nat} (h : Chain nx i r) : rowOf nx i = r := by
  unfold rowOf
  rw [dif_pos ⟨r, h⟩]
  exact (Classical.choose_spec (⟨r, h⟩ : ∃ r, Chain nx i r)).uniq h
theorem Chain.head {i : Nat} {r : List Nat} (h : Chain nx i r) : ∃ t, r = i :: t := by
  cases h with
  | last _ => exact ⟨_, rfl⟩
  | step _ _ => exact ⟨_, rfl⟩
/-- what stands in a row is its first, or the next of what stands there -/
theorem Chain.mem {i : Nat} {r : List Nat} (h : Chain nx i r) : ∀ x ∈ r, x = i ∨ ∃ y ∈ r, nx y = some x := by
  induction h with
  | last _ => exact fun x hx => .inl (List.mem_singleton.mp hx)
  | @step i j r e h ih =>
    intro x hx
    rcases List.mem_cons.mp hx with hx | hx
    · exact .inl hx
    · rcases ih x hx with rfl | ⟨y, hy, e'⟩
      · exact .inr ⟨i, List.mem_cons_self, e⟩
      · exact .inr ⟨y, List.mem_cons_of_mem _ hy, e'⟩
theorem Chain.next {i : Nat} {r : List Nat} (h : Chain nx i r) : ∀ x ∈ r, ∀ y, nx x = some y → y ∈ r := by
  induction h with
  | last e =>
    intro x hx y hy
    rw [List.mem_singleton.mp hx, e] at hy
    cases hy
  | @step i j r e h ih =>
    intro x hx y hy
    rcases List.mem_cons.mp hx with rfl | hx
    · rw [e] at hy
      cases hy
      obtain ⟨t, et⟩ := h.head
      rw [et]
      exact List.mem_cons_of_mem _ List.mem_cons_self
    · exact List.mem_cons_of_mem _ (ih x hx y hy)
theorem Chain.adj {i : Nat} {r : List Nat} (h : Chain nx i r) : ∀ (k : Nat) x y, r[k]? = some x → r[k + 1]? = some y → nx x = some y := by
  induction h with
  | last _ =>
    intro k x y h1 h2
    simp at h2
  | @step i j r e h ih =>
    intro k x y h1 h2
    cases k with
    | zero =>
      cases h1
      obtain ⟨t, et⟩ := h.head
      rw [et] at h2
      cases h2
      exact e
    | succ k => exact ih k x y h1 h2
theorem Chain.desc {i : Nat} {r : List Nat} (rk : Nat → Nat) (hr : ∀ i j, nx i = some j → rk j < rk i) (h : Chain nx i r) : (∀ x ∈ r, rk x ≤ rk i) ∧ r.Nodup ∧ r.length ≤ rk i + 1 := by
  induction h with
  | last _ => exact ⟨fun x hx => by rw [List.mem_singleton.mp hx]; exact Nat.le_refl _, by simp, Nat.le_add_left 1 _⟩
  | @step i j r e h ih =>
    have := hr i j e
    obtain ⟨h1, h2, h3⟩ := ih
    refine ⟨fun x hx => ?_, ?_, by rw [List.length_cons]; omega⟩
    · rcases List.mem_cons.mp hx with rfl | hx
      · exact Nat.le_refl _
      · have := h1 x hx
        omega
    · rw [List.nodup_cons]
      refine ⟨fun hi => ?_, h2⟩
      have := h1 i hi
      omega
/-- the rows -/
noncomputable def rowsL (n : Nat) (nx ah : Fn) : List (List Nat) := (startL n ah).map (rowOf nx)
theorem rows_perm (M : Mt b nx ah) (hb : ∀ i j, i < n → j ∈ b i → j < n) (rk : Nat → Nat) (hr : ∀ i j, nx i = some j → rk j < rk i) (rb : Nat → Nat) (hrb : ∀ i j, nx i = some j → rb i < rb j) (hlt : ∀ i j, nx i = some j → i < n) :
    (rowsL n nx ah).flatten.Perm (List.range n) := by
  have ch : ∀ i, Chain nx i (rowOf nx i) := fun i => by
    obtain ⟨r, h⟩ := chain_ex rk hr _ i (Nat.le_refl _)
    rw [h.row]
    exact h
  -- where a trip's row begins is one place alone
  have root : ∀ (m x : Nat), rb x ≤ m → ∀ s s', ah s = none → ah s' = none → x ∈ rowOf nx s → x ∈ rowOf nx s' → s = s' := fun m => by
    induction m with
    | zero =>
      intro x hx s s' hs hs' h1 h2
      have f : ∀ s, ah s = none → x ∈ rowOf nx s → x = s := fun s hs h => by
        rcases (ch s).mem x h with h | ⟨y, _, e⟩
        · exact h
        · have := hrb _ _ e
          omega
      rw [← f s hs h1, ← f s' hs' h2]
    | succ m ih =>
      intro x hx s s' hs hs' h1 h2
      rcases (ch s).mem x h1 with e1 | ⟨y, hy, e1⟩
      · rcases (ch s').mem x h2 with e2 | ⟨z, hz, e2⟩
        · rw [← e1, ← e2]
        · rw [e1] at e2
          have := M.na _ _ e2
          rw [hs] at this
          cases this
      · rcases (ch s').mem x h2 with e2 | ⟨z, hz, e2⟩
        · rw [e2] at e1
          have := M.na _ _ e1
          rw [hs'] at this
          cases this
        · have h3 := M.na _ _ e1
          have h4 := M.na _ _ e2
          rw [h3] at h4
          cases h4
          have := hrb _ _ e1
          exact ih y (by omega) s s' hs hs' hy hz
  have cover : ∀ (m x : Nat), rb x ≤ m → x < n → ∃ s, s < n ∧ ah s = none ∧ x ∈ rowOf nx s := fun m => by
    induction m with
    | zero =>
      intro x hx hxn
      cases e : ah x with
      | none =>
        obtain ⟨t, et⟩ := (ch x).head
        exact ⟨x, hxn, e, by rw [et]; exact List.mem_cons_self⟩
      | some y =>
        have := hrb _ _ (M.an _ _ e)
        omega
    | succ m ih =>
      intro x hx hxn
      cases e : ah x with
      | none =>
        obtain ⟨t, et⟩ := (ch x).head
        exact ⟨x, hxn, e, by rw [et]; exact List.mem_cons_self⟩
      | some y =>
        have e2 := M.an _ _ e
        have := hrb _ _ e2
        obtain ⟨s, h1, h2, h3⟩ := ih y (by omega) (hlt _ _ e2)
        exact ⟨s, h1, h2, (ch s).next y h3 x e2⟩
  have inn : ∀ s, s < n → ∀ x ∈ rowOf nx s, x < n := fun s hs x hx => by
    rcases (ch s).mem x hx with rfl | ⟨y, _, e⟩
    · exact hs
    · exact hb _ _ (hlt _ _ e) (M.ed _ _ e)
  have nd : (rowsL n nx ah).flatten.Nodup := by
    unfold rowsL
    have hst : ∀ s ∈ startL n ah, ah s = none := fun s hs => by
      have := (List.mem_filter.mp hs).2
      cases e : ah s with
      | none => rfl
      | some y => rw [e] at this; cases this
    have snd : (startL n ah).Nodup := nodup_filter range_nodup
    revert hst snd
    generalize startL n ah = st
    intro hst snd
    induction st with
    | nil => exact .nil
    | cons s st ih =>
      rw [List.nodup_cons] at snd
      rw [List.map_cons, List.flatten_cons, List.nodup_append]
      refine ⟨((ch s).desc rk hr).2.1, ih (fun x hx => hst x (List.mem_cons_of_mem _ hx)) snd.2, fun x hx y hy e => ?_⟩
      subst e
      obtain ⟨r, hr1, hr2⟩ := List.mem_flatten.mp hy
      obtain ⟨s', hs', rfl⟩ := List.mem_map.mp hr1
      have := root _ x (Nat.le_refl _) s s' (hst s List.mem_cons_self) (hst s' (List.mem_cons_of_mem _ hs')) hx hr2
      subst this
      exact snd.1 hs'
  rw [List.perm_ext_iff_of_nodup nd range_nodup]
  intro x
  rw [List.mem_flatten, List.mem_range]
  unfold rowsL
  constructor
  · rintro ⟨r, h1, h2⟩
    obtain ⟨s, hs, rfl⟩ := List.mem_map.mp h1
    exact inn s (List.mem_range.mp (List.mem_filter.mp hs).1) x h2
  · intro hx
    obtain ⟨s, h1, h2, h3⟩ := cover _ x (Nat.le_refl _) hx
    exact ⟨_, List.mem_map.mpr ⟨s, List.mem_filter.mpr ⟨List.mem_range.mpr h1, by rw [h2]; rfl⟩, rfl⟩, h3⟩
end
end Kg

set_option maxRecDepth 100000
set_option maxHeartbeats 4000000
/-! numbers of trips, dicts of them -/
namespace Bus
open PySem PySem.Spec PyProof.Rows L2 Fw
open Dj (Best dist)
def numsD (l : List Nat) : List PyData := l.map fun n => .int (n : Nat)
theorem numsD_len (l : List Nat) : (numsD l).length = l.length := by unfold numsD; rw [List.length_map]
theorem numsD_app (l m : List Nat) : numsD (l ++ m) = numsD l ++ numsD m := by unfold numsD; rw [List.map_append]
theorem numsD_snoc (l : List Nat) (x : Nat) : numsD (l ++ [x]) = numsD l ++ [.int (x : Nat)] := by rw [numsD_app]; rfl
theorem numsD_get {l : List Nat} {i : Nat} {n : Nat} (h : l[i]? = some n) : (numsD l)[i]? = some (.int (n : Nat)) := by unfold numsD; rw [List.getElem?_map, h]; rfl
theorem numsD_inv {l : List Nat} {i : Nat} {d : PyData} (h : (numsD l)[i]? = some d) : ∃ n, l[i]? = some n ∧ d = .int (n : Nat) := by
  unfold numsD at h
  rw [List.getElem?_map] at h
  obtain ⟨n, h1, h2⟩ := Option.map_eq_some_iff.mp h
  exact ⟨n, h1, h2.symm⟩
theorem numsD_flat (l : List Nat) : ∀ d ∈ numsD l, scalD d = true := fun d hd => by
  obtain ⟨n, _, rfl⟩ := List.mem_map.mp hd
  rfl
theorem nums_shp (l : List Nat) : Shp (.list (numsD l)) 1 := shp_map fun _ _ => shp_int _
/-- lists of numbers -/
def listsD (B : List (List Nat)) : List PyData := B.map fun l => .list (numsD l)
theorem lists_shp (B : List (List Nat)) : Shp (.list (listsD B)) 2 := shp_map fun l _ => nums_shp l
noncomputable def canD (L : List Ride) (ts : List Trip) (i j : Nat) : Bool := match ts[i]?, ts[j]? with
  | some t, some u => inT L t u
  | _, _ => false
noncomputable def folT (L : List Ride) (ts : List Trip) (t : Trip) : List Nat := (List.range ts.length).filter fun j => (ts[j]?).elim false fun u => inT L t u
noncomputable def folB (L : List Ride) (ts : List Trip) : List (List Nat) := ts.map (folT L ts)
def bOf (B : List (List Nat)) (i : Nat) : List Nat := (B[i]?).getD []
theorem folB_len (L : List Ride) (ts : List Trip) : (folB L ts).length = ts.length := by unfold folB; rw [List.length_map]
theorem mem_fol {L : List Ride} {ts : List Trip} {i j : Nat} : j ∈ bOf (folB L ts) i ↔ canD L ts i j = true := by
  unfold bOf folB
  rw [List.getElem?_map]
  cases e : ts[i]? with
  | none =>
    unfold canD
    rw [e]
    simp
  | some t =>
    show j ∈ folT L ts t ↔ _
    unfold folT
    rw [List.mem_filter, List.mem_range]
    unfold canD
    rw [e]
    cases e2 : ts[j]? with
    | none => simp
    | some u =>
      have := (List.getElem?_eq_some_iff.mp e2).1
      simp [this]
theorem fol_lt {L : List Ride} {ts : List Trip} {i j : Nat} (h : j ∈ bOf (folB L ts) i) : j < ts.length := by
  rw [mem_fol] at h
  unfold canD at h
  cases e : ts[i]? with
  | none => rw [e] at h; simp at h
  | some t =>
    cases e2 : ts[j]? with
    | none => rw [e, e2] at h; simp at h
    | some u => exact (List.getElem?_eq_some_iff.mp e2).1
theorem canD_some {L : List Ride} {ts : List Trip} {i j : Nat} (h : canD L ts i j = true) : ∃ t u, ts[i]? = some t ∧ ts[j]? = some u ∧ inT L t u = true := by
  unfold canD at h
  cases e : ts[i]? with
  | none => rw [e] at h; simp at h
  | some t =>
    cases e2 : ts[j]? with
    | none => rw [e, e2] at h; simp at h
    | some u =>
      rw [e, e2] at h
      exact ⟨t, u, rfl, rfl, h⟩
theorem canD_trans {rs : List Ride} {ts : List Trip} (hr : ∀ r ∈ rs, OkR r) (ht : ∀ t ∈ ts, OkT t) {i j l : Nat} (h1 : canD (laid rs ts) ts i j = true) (h2 : canD (laid rs ts) ts j l = true) : canD (laid rs ts) ts i l = true := by
  obtain ⟨t, u, e1, e2, h1⟩ := canD_some h1
  obtain ⟨u', v, e3, e4, h2⟩ := canD_some h2
  rw [e2] at e3
  cases e3
  unfold canD
  rw [e1, e4]
  exact inT_trans hr ht (List.mem_of_getElem? e2) h1 h2
/-- a trip that can be done behind another one begins later -/
theorem canD_later {L : List Ride} (hL : ∀ r ∈ L, 1 ≤ r.2.2) {ts : List Trip} (ht : ∀ t ∈ ts, OkT t) {i j : Nat} (h : canD L ts i j = true) : ∃ t u, ts[i]? = some t ∧ ts[j]? = some u ∧ t.2.1 < u.2.1 := by
  obtain ⟨t, u, e1, e2, h⟩ := canD_some h
  obtain ⟨m, h1, h2⟩ := inT_iff.mp h
  have := Dj.dist_nn hL h1
  have := (okT_iff.mp (ht t (List.mem_of_getElem? e1))).2.2.2.1
  exact ⟨t, u, e1, e2, by omega⟩
/-- ranks by begins -/
def beg (ts : List Trip) (i : Nat) : Int := (ts[i]?).elim 0 fun t => t.2.1
def rkF (ts : List Trip) (i : Nat) : Nat := ((List.range ts.length).filter fun j => decide (beg ts i < beg ts j)).length
def rkB (ts : List Trip) (i : Nat) : Nat := ((List.range ts.length).filter fun j => decide (beg ts j < beg ts i)).length
theorem rkF_le (ts : List Trip) (i : Nat) : rkF ts i ≤ ts.length := by
  have := List.length_filter_le (fun j => decide (beg ts i < beg ts j)) (List.range ts.length)
  rw [List.length_range] at this
  exact this
theorem rk_step {L : List Ride} (hL : ∀ r ∈ L, 1 ≤ r.2.2) {ts : List Trip} (ht : ∀ t ∈ ts, OkT t) {i j : Nat} (h : canD L ts i j = true) : rkF ts j < rkF ts i ∧ rkB ts i < rkB ts j := by
  obtain ⟨t, u, e1, e2, lt⟩ := canD_later hL ht h
  have b1 : beg ts i = t.2.1 := by unfold beg; rw [e1]; rfl
  have b2 : beg ts j = u.2.1 := by unfold beg; rw [e2]; rfl
  have l1 := (List.getElem?_eq_some_iff.mp e1).1
  have l2 := (List.getElem?_eq_some_iff.mp e2).1
  constructor
  · exact Dj.filter_lt (p := fun k => decide (beg ts j < beg ts k)) (q := fun k => decide (beg ts i < beg ts k)) (fun k h => by simp only [decide_eq_true_eq] at h ⊢; omega) (List.mem_range.mpr l2) (by simp only [decide_eq_true_eq]; omega) (by simp)
  · exact Dj.filter_lt (p := fun k => decide (beg ts k < beg ts i)) (q := fun k => decide (beg ts k < beg ts j)) (fun k h => by simp only [decide_eq_true_eq] at h ⊢; omega) (List.mem_range.mpr l1) (by simp only [decide_eq_true_eq]; omega) (by simp)
/-! dicts from numbers to numbers -/
def TellsN (kvs : List (Key × PyData)) (f : Kg.Fn) : Prop := ∀ i : Nat, lookD kvs (.inl (i : Nat)) = (f i).map fun j => PyData.int (j : Nat)
structure KeysN (n : Nat) (kvs : List (Key × PyData)) : Prop where
  nd : (kvs.map (·.1)).Nodup
  ks : ∀ q ∈ kvs, ∃ i : Nat, i < n ∧ q.1 = .inl (i : Nat)
  fl : ∀ q ∈ kvs, scalD q.2 = true
theorem tellsN_nil : TellsN [] fun _ => none := fun _ => rfl
theorem keysN_nil {n : Nat} : KeysN n [] := ⟨.nil, (fun _ h => nomatch h), fun _ h => nomatch h⟩
theorem tellsN_put {kvs : List (Key × PyData)} {f : Kg.Fn} (h : TellsN kvs f) (i j : Nat) : TellsN (putD kvs (.inl (i : Nat)) (.int (j : Nat))) (Kg.put f i j) := fun x => by
  rw [look_put]
  unfold Kg.put
  by_cases e : x = i
  · subst e
    rw [if_pos rfl, if_pos rfl]
    rfl
  · rw [if_neg (fun z => e (by have := Sum.inl.inj z; omega)), if_neg e]
    exact h x
theorem keysN_put {n : Nat} {kvs : List (Key × PyData)} (h : KeysN n kvs) {i : Nat} (hi : i < n) {d : PyData} (hd : scalD d = true) : KeysN n (putD kvs (.inl (i : Nat)) d) := by
  unfold putD
  split
  · refine ⟨?_, fun q hq => ?_, fun q hq => ?_⟩
    · have : (kvs.map fun kv => if kv.1 = (.inl (i : Nat) : Key) then (kv.1, d) else kv).map (·.1) = kvs.map (·.1) := by
        rw [List.map_map]
        refine List.map_congr_left fun q _ => ?_
        show (if q.1 = _ then (q.1, d) else q).1 = q.1
        split <;> rfl
      rw [this]
      exact h.nd
    · obtain ⟨q0, hq0, e⟩ := List.mem_map.mp hq
      obtain ⟨z, hz, e2⟩ := h.ks q0 hq0
      refine ⟨z, hz, ?_⟩
      rw [← e]
      show (if q0.1 = _ then (q0.1, d) else q0).1 = _
      split <;> exact e2
    · obtain ⟨q0, hq0, e⟩ := List.mem_map.mp hq
      rw [← e]
      show scalD (if q0.1 = _ then (q0.1, d) else q0).2 = _
      split
      · exact hd
      · exact h.fl q0 hq0
  · rename_i hc
    refine ⟨?_, fun q hq => ?_, fun q hq => ?_⟩
    · rw [List.map_append, List.nodup_append]
      refine ⟨h.nd, by simp, fun x hx y hy e => ?_⟩
      rw [List.map_cons, List.map_nil, List.mem_singleton] at hy
      subst hy
      subst e
      obtain ⟨q, hq, e⟩ := List.mem_map.mp hx
      exact hc (List.any_eq_true.mpr ⟨q, hq, decide_eq_true e⟩)
    · rcases List.mem_append.mp hq with hq | hq
      · exact h.ks q hq
      · rw [List.mem_singleton.mp hq]
        exact ⟨i, hi, rfl⟩
    · rcases List.mem_append.mp hq with hq | hq
      · exact h.fl q hq
      · rw [List.mem_singleton.mp hq]
        exact hd
theorem keysN_len {n : Nat} {kvs : List (Key × PyData)} (h : KeysN n kvs) : kvs.length ≤ n := by
  have := Dj.nodup_len (m := (List.range n).map fun i => (Sum.inl ((i : Nat) : Int) : Key)) h.nd fun x hx => by
    obtain ⟨q, hq, e⟩ := List.mem_map.mp hx
    obtain ⟨z, hz, e2⟩ := h.ks q hq
    exact List.mem_map.mpr ⟨z, List.mem_range.mpr hz, by rw [← e, e2]⟩
  rw [List.length_map, List.length_map, List.length_range] at this
  exact this
def foundN (F : List Kg.Fd) : List (Key × PyData) := F.map fun f => (.inl (f.1 : Nat), .int (f.2 : Nat))
theorem foundN_len (F : List Kg.Fd) : (foundN F).length = F.length := by unfold foundN; rw [List.length_map]
theorem foundN_flat (F : List Kg.Fd) : ∀ q ∈ foundN F, scalD q.2 = true := fun q hq => by
  obtain ⟨f, _, rfl⟩ := List.mem_map.mp hq
  rfl
theorem foundN_look {F : List Kg.Fd} (nd : (Kg.keys F).Nodup) (o : Nat) : (∃ x, (o, x) ∈ F ∧ o ∈ Kg.keys F ∧ lookD (foundN F) (.inl (o : Nat)) = some (.int (x : Nat))) ∨ (o ∉ Kg.keys F ∧ lookD (foundN F) (.inl (o : Nat)) = none) := by
  induction F with
  | nil => exact .inr ⟨(fun h => nomatch h), rfl⟩
  | cons f F ih =>
    unfold Kg.keys at nd
    rw [List.map_cons, List.nodup_cons] at nd
    obtain ⟨f1, f2⟩ := f
    by_cases e : f1 = o
    · subst e
      refine .inl ⟨f2, List.mem_cons_self, by unfold Kg.keys; exact List.mem_cons_self, ?_⟩
      unfold lookD foundN
      rw [List.map_cons, List.find?_cons]
      simp
    · have ne : ¬ (Sum.inl ((f1 : Nat) : Int) : Key) = .inl (o : Nat) := fun z => e (by have := Sum.inl.inj z; omega)
      have st : lookD (foundN ((f1, f2) :: F)) (.inl (o : Nat)) = lookD (foundN F) (.inl (o : Nat)) := by
        unfold lookD foundN
        rw [List.map_cons, List.find?_cons]
        simp only [ne, decide_false]
      rw [st]
      rcases ih nd.2 with ⟨x, h1, h2, l⟩ | ⟨h1, l⟩
      · exact .inl ⟨x, List.mem_cons_of_mem _ h1, by unfold Kg.keys at h2 ⊢; exact List.mem_cons_of_mem _ h2, l⟩
      · refine .inr ⟨fun h => ?_, l⟩
        unfold Kg.keys at h
        rcases List.mem_cons.mp h with h | h
        · exact e h.symm
        · exact h1 h
theorem foundN_snoc {F : List Kg.Fd} {o x : Nat} (h : lookD (foundN F) (.inl (o : Nat)) = none) : putD (foundN F) (.inl (o : Nat)) (.int (x : Nat)) = foundN (F ++ [(o, x)]) := by
  rw [put_new h]
  unfold foundN
  rw [List.map_append]
  rfl
end Bus

set_option maxRecDepth 100000
set_option maxHeartbeats 4000000
namespace K8
open PySem PySem.Spec PyProof.Rows L2 Fw Bus
open Dj (Best dist)
local macro_rules | `(tactic| walk_at "sel") => `(tactic| repeat (first | with_reducible apply Sel.z | apply Sel.s))
local macro_rules | `(tactic| walk_at "upd") => `(tactic| repeat (first | with_reducible apply Upd.z | apply Upd.s))
local macro_rules | `(tactic| walk_at "has") => `(tactic| repeat (first | with_reducible apply Has.z | apply Has.s))
local macro_rules | `(tactic| walk_at "fz") => `(tactic| repeat (first | exact Fz.nil | apply Fz.un | apply Fz.dat | apply Fz.scr | apply Fz.rng | apply Fz.dic | apply Fz.ldc | apply Fz.own | apply Fz.odi | apply Fz.any))
local macro_rules | `(tactic| walk_at "bi") => `(tactic| first | with_reducible exact BI.len | with_reducible exact BI.max | with_reducible exact BI.min | with_reducible exact BI.all | with_reducible exact BI.any | with_reducible exact BI.sorted | with_reducible exact BI.sum | with_reducible exact BI.abs)
local macro_rules | `(tactic| walk_at "bt") => `(tactic| first | with_reducible exact BT.list | with_reducible exact BT.tuple | with_reducible exact BT.str | with_reducible exact BT.int | with_reducible exact BT.bool | with_reducible exact BT.dict)
local macro_rules | `(tactic| walk_at "bd") => `(tactic| first | exact bd_add | exact bd_sub | (apply bd_mod <;> try decide) | (apply bd_fdiv <;> try decide) | apply bd_adds | apply bd_muls | apply bd_mul | apply bd_cat)
local macro_rules | `(tactic| walk_at "cd") => `(tactic| first | exact cd_lt | exact cd_le | exact cd_gt | exact cd_ge | exact cd_eqi | exact cd_nei | exact cd_eqs | exact cd_nes | exact cd_inSign | apply cd_eqD (Nm.hu (by assumption)) | apply cd_neD (Nm.hu (by assumption)) | apply cd_inD (Nm.hu5 (by assumption)) | apply cd_notInD (Nm.hu5 (by assumption)))
local macro_rules | `(tactic| walk_at "id") => `(tactic| first | (apply id_l <;> try first | assumption | rfl) | (apply id_t <;> try first | assumption | rfl) | (apply id_s <;> try first | assumption | (show Str.length _ ≤ sizeLine; decide +kernel)))
local macro_rules | `(tactic| walk_at "cl") => `(tactic| first | exact cl_lenL | exact cl_lenT | apply cl_lenS | exact cl_list | exact cl_max2 (Nm.calm (by assumption)) | exact cl_all (Nm.calm (by assumption)))
local macro_rules | `(tactic| walk_at "x") => `(tactic| first
  | exact xe_int | exact xe_str | exact xe_bl | exact xe_non
  | (apply ve; · assumption
     · walk_at "sel")
  | (apply ve'; · assumption
     · walk_at "sel"
     all_goals (first | rfl | (intro z; cases z; done)))
  | (apply gle_int; · assumption
     · walk_at "has"
     · with_reducible assumption)
  | (apply gle_str; · assumption
     · walk_at "has"
     · with_reducible assumption)
  | (show Nm _ _ _ _ _ _ _ _ _ _; assumption)
  | (apply xe_bin <;> try walk_at "x") | walk_at "bd"
  | (apply xt_cmp <;> try walk_at "x") | (apply xe_cmp <;> try walk_at "x") | walk_at "cd"
  | (show behindInMarks _ _ = false; first | exact nomark _ | rfl)
  | (apply xt_not <;> try walk_at "x") | (apply xe_not <;> try walk_at "x")
  | (apply xe_unop <;> try walk_at "x") | exact ud_neg
  | (apply xt_pw; apply xw_and <;> try walk_at "x") | (apply xt_pw; apply xw_or <;> try walk_at "x")
  | (apply xw_and <;> try walk_at "x") | (apply xw_or <;> try walk_at "x") | (apply xw_and1 <;> try walk_at "x") | (apply xw_or1 <;> try walk_at "x")
  | (apply xe_and <;> try walk_at "x") | (apply xe_or <;> try walk_at "x") | (apply xe_one <;> try walk_at "x")
  | (apply cisi; · assumption
     · walk_at "bt"
     · walk_at "has"
     · walk_at "has"
     · walk_at "has"
     · walk_at "has"
     all_goals try walk_at "x")
  | (apply cbi; · assumption
     · walk_at "bi"
     · walk_at "has"
     · walk_at "has"
     all_goals try walk_at "x")
  | (apply cty; · assumption
     · walk_at "bt"
     · walk_at "has"
     · walk_at "has"
     all_goals walk_at "x")
  | (apply xe_fr (c := .own _)
     (apply cty; · assumption
      · walk_at "bt"
      · walk_at "has"
      · walk_at "has"
      all_goals walk_at "x"))
  | (apply cty; · assumption
     · walk_at "bt"
     · walk_at "has"
     · walk_at "has"
     all_goals try walk_at "x")
  | walk_at "cl"
  | exact xd_nil | (apply xd_cons <;> try walk_at "x") | exact xa_nil | (apply xa_c <;> try walk_at "x")
  | (apply xe_list <;> try walk_at "x") | (apply xe_tup <;> try walk_at "x")
  | (apply xe_ix <;> try walk_at "x") | walk_at "id"
  | (show PlainIx _; exact fun _ _ => rfl)
  | (apply xt_chainI op_le op_le <;> try walk_at "x") | (apply xt_chainI op_le op_lt <;> try walk_at "x") | (apply xe_chainI op_le op_le <;> try walk_at "x") | (apply xe_chainI op_le op_lt <;> try walk_at "x")
  | (apply xt_val <;> try walk_at "x")
  | (apply xe_fr (c := .own _) <;> try walk_at "x")
  | (show List.length _ ≤ 100000; exact Nat.le_of_ble_eq_true rfl)
  | (show lastMarks _ _ = false; with_unfolding_all rfl)
  | (show _ = _; rfl)
  | (intro _; walk_at "x"))
open Kg (Mt Rch Reach keys)
structure AMf where
  n : Nat
  B : List (List Nat)
  hB : B.length = n
  hb : ∀ i, ∀ j ∈ bOf B i, j < n
  kvs : List (Key × PyData)
  ah : Kg.Fn
  hT : TellsN kvs ah
  ha : ∀ i j, ah j = some i → i < n
  ws : List Nat
  hw : ∀ x ∈ ws, x < n
  lw : ws.length ≤ n
  hn : n ≤ 100
abbrev cMeant (K : PySem.W.Frag) : Sp := Con K (fun a : AMf => [.dat (.list (listsD a.B)), .dic a.kvs, .dat (.list (numsD a.ws))]) (fun a c => ∃ F, Reach a.n (bOf a.B) a.ah (fun x => x ∈ a.ws) F ∧ c = .odi (foundN F))
theorem at_lists {B : List (List Nat)} {i : Nat} (h : i < B.length) : atI (listsD B) (i : Int) = some (.list (numsD (bOf B i))) := atI_nat' (n := i) rfl (by
  unfold listsD bOf
  rw [List.getElem?_map, List.getElem?_eq_getElem h]
  rfl)
section
variable {P : Program} {w : World} {K : PySem.W.Frag} {mg : Str → Option Value} {base : Heap}
theorem ok_meant_for {f : Addr} {fd : FuncData} {k : Nat} (F : Fun K "meant_for" "meant_for" s_meant_for f fd) (hb : Bl mg) : FnOk P w K mg base CX0 (k + 1) f fd ["behind", "ahead", "wanting"] (cMeant K) := by
  refine fn_con F sc_meant_for (fun _ => rfl) fun cdv A outer s H E hr a => ?_
  obtain ⟨nm, nd⟩ := nm_meant_for (P := P) (w := w) (K := K) (mg := mg) (base := base) (outer := outer) (H := H) (E := E) hb hr
  obtain ⟨n, B, hB, hbn, kvs, ah, hT, ha, ws, hw, lw, hn⟩ := a
  show XSs _ [.dat (.list (listsD B)), .dic kvs, .dat (.list (numsD ws)), .un, .un, .un, .un] _ { nx := fun _ => _, rt := fun c => ∃ F, Reach n (bOf B) ah (fun x => x ∈ ws) F ∧ c = .odi (foundN F) }
  refine xs_cons (set nm nd xe_dnew (by walk_at "upd") ?_)
  refine xs_cons (set nm nd (c := .own (numsD ws)) (by walk_at "x") (by walk_at "upd") ?_)
  refine xs_cons (while_ nd (fun m c => ∃ F W x y, Rch n (bOf B) ah (fun x => x ∈ ws) F W none ∧ m = 2 * (n - F.length) + W.length ∧ m ≤ 3 * n ∧ c = [.dat (.list (listsD B)), .dic kvs, .dat (.list (numsD ws)), .odi (foundN F), .own (numsD W), x, y]) _ ⟨[], ws, _, _, .start (fun _ => Iff.rfl), rfl, by simp only [List.length_nil]; omega, rfl⟩ ?_)
  rintro m _ ⟨F, W, x, y, I, rfl, hm, rfl⟩
  by_cases hW : W = []
  · subst hW
    refine ⟨false, _, by walk_at "fz", XT.is (xt_truthL (by walk_at "x")) rfl, (fun h => by cases h), fun _ => ?_⟩
    exact xs_cons (retN nm (c := .odi (foundN F)) (by walk_at "sel") ⟨F, I.fin, rfl⟩)
  obtain ⟨W', one, rfl⟩ : ∃ W' one, W = W' ++ [one] := ⟨W.dropLast, W.getLast hW, (List.dropLast_concat_getLast hW).symm⟩
  refine ⟨true, _, by walk_at "fz", XT.is (xt_truthL (by walk_at "x")) (by rw [numsD_app]; cases numsD W' <;> rfl), (fun _ => ?_), fun h => by cases h⟩
  rw [List.length_append, List.length_singleton] at hm ⊢
  rw [numsD_snoc]
  refine xs_cons (x_pop nm nd (ds := numsD W') (d := .int (one : Nat)) (by walk_at "sel") (by walk_at "upd") (by walk_at "upd") ?_)
  have lfn : ∀ F x, Kg.Lf (fun x => x ∈ ws) ah F x → x < n := fun F x h => by
    rcases h with h | ⟨o, _, h⟩
    · exact hw x h
    · exact ha _ _ h
  have hone : one < n := lfn F one (I.wl one (List.mem_append_right _ List.mem_cons_self))
  have I1 := I.pop
  refine xs_cons (for_ nm nd (ds := numsD (bOf B one)) (fun i c => ∃ F' W2 y, Rch n (bOf B) ah (fun x => x ∈ ws) F' W2 (some (one, i)) ∧ 2 * (n - F'.length) + W2.length ≤ 2 * (n - F.length) + W'.length ∧ c = [.dat (.list (listsD B)), .dic kvs, .dat (.list (numsD ws)), .odi (foundN F'), .own (numsD W2), .dat (.int (one : Nat)), y]) (xi_list (xe_ix (d := .list (listsD B)) (by walk_at "x") (by walk_at "x") (id_l (at_lists (by omega))))) ⟨F, W', _, I1, Nat.le_refl _, rfl⟩ ?_ ?_)
  · rintro i d _ hd ⟨F', W2, y2, I2, hm2, rfl⟩
    obtain ⟨o, ho, rfl⟩ := numsD_inv hd
    have hol := hbn one o (List.mem_of_getElem? ho)
    refine gnm nm nd (by walk_at "upd") ?_
    rcases foundN_look I2.nd o with ⟨z, h1, h2, lk⟩ | ⟨h1, lk⟩
    · refine xs_cons (if_ (kk := false) (by walk_at "fz") (XT.is (xt_dnin nm (kd := .int (o : Nat)) (kvs := foundN F') (by walk_at "x") (xe_ldc (by walk_at "x")) rfl) (by rw [lk]; rfl)) (fun h => by cases h) fun _ => xs_nil (xs_nil ⟨F', W2, _, I2.skip ho h2, hm2, rfl⟩))
    · have I3 := I2.new ho h1 hol
      have fl := I3.fl
      rw [List.length_append, List.length_singleton] at fl
      refine xs_cons (if_ (kk := true) (by walk_at "fz") (XT.is (xt_dnin nm (kd := .int (o : Nat)) (kvs := foundN F') (by walk_at "x") (xe_ldc (by walk_at "x")) rfl) (by rw [lk]; rfl)) (fun _ => ?_) fun h => by cases h)
      refine xs_cons (dput nm (kvs := foundN F') (kd := .int (o : Nat)) (d := .int (one : Nat)) (by walk_at "sel") (by walk_at "x") (by walk_at "x") rfl (by walk_at "upd") (by rw [foundN_len]; omega) ?_)
      rw [foundN_snoc lk]
      have to := hT o
      cases e : ah o with
      | none =>
        rw [e] at to I3
        have to : lookD kvs (.inl (o : Nat)) = none := to
        refine xs_cons (if_ (kk := false) (by walk_at "fz") (XT.is (xt_din nm (kd := .int (o : Nat)) (kvs := kvs) (by walk_at "x") (xe_ldc (by walk_at "x")) rfl) (by rw [to]; rfl)) (fun h => by cases h) fun _ => xs_nil (xs_nil (xs_nil ⟨_, W2, _, by simpa using I3, by rw [List.length_append, List.length_singleton]; omega, rfl⟩)))
      | some q =>
        rw [e] at to I3
        have to : lookD kvs (.inl (o : Nat)) = some (.int (q : Nat)) := to
        refine xs_cons (if_ (kk := true) (by walk_at "fz") (XT.is (xt_din nm (kd := .int (o : Nat)) (kvs := kvs) (by walk_at "x") (xe_ldc (by walk_at "x")) rfl) (by rw [to]; rfl)) (fun _ => ?_) fun h => by cases h)
        refine xs_cons (app nm (d := .int (q : Nat)) (by walk_at "sel") (by walk_at "upd") (xe_dg nm (kvs := kvs) (kd := .int (o : Nat)) (xe_ldc (by walk_at "x")) (by walk_at "x") rfl to) (by rw [numsD_len]; omega) (xs_nil (xs_nil (xs_nil ⟨F' ++ [(o, one)], W2 ++ [q], .dat (.int (o : Nat)), I3, by rw [List.length_append, List.length_append, List.length_singleton, List.length_singleton]; omega, by rw [numsD_app]; rfl⟩))))
  · rintro _ ⟨F', W2, y2, I2, hm2, rfl⟩
    rw [numsD_len] at I2
    exact xs_nil ⟨2 * (n - F'.length) + W2.length, by omega, F', W2, _, _, I2.over, rfl, by omega, rfl⟩
end
end K8

set_option maxRecDepth 100000
set_option maxHeartbeats 4000000
/-! steps told by hand -/
namespace Fw
open PySem PySem.Spec PyProof.Rows L2
open Evl (Ex)
section
variable {X : Cx} {P : Program} {w : World} {K : PySem.W.Frag} {mg : Str → Option Value} {base : Heap} {k : Nat} {M : List (Option Str)} {GL BL : List Str} {cs cs' : List Cell} {pos p pos' p1 p2 p3 : Pos} {Po : Po} {D : Ends} {σ : L2.St} {H : Hp} {Q : VK}
theorem rs_cons {st : Stmt} {rest : List Stmt} (h : vS X st { D with nx := fun σ' H' => vSs X rest D σ' H' } σ H) : vSs X (st :: rest) D σ H := by
  obtain ⟨t, h1, h2⟩ := h
  exact ⟨_, pss_cons h1 pss_v, h2⟩
theorem rs_nil (h : D.nx σ H) : vSs X [] D σ H := ⟨_, pss_nil, h⟩
theorem r_var (nm : Nm X P w K mg base k M GL BL) {x : Str} {i : Nat} {v : V} (hi : M[i]? = some (some x)) (hσ : σ[i]? = some (some v)) (q : Q v H) : vE X (.Name x p) σ H Q := ⟨_, pe_var (nm.pre i x hi) (nm.vis x (List.mem_of_getElem? hi)) (nm.dbg x (List.mem_of_getElem? hi)).1 (nm.dbg x (List.mem_of_getElem? hi)).2, v, hσ, q⟩
theorem r_set (nm : Nm X P w K mg base k M GL BL) (nd : Nd X M) {x : Str} {e : Expr} {i : Nat} (hi : M[i]? = some (some x)) (h : vE X e σ H fun v H' => D.nx (σ.set i (some v)) H') (hs : swapsWith e (some (.Name x pos')) pos.line X.env = pure false := by rfl) : vS X (.Assign [.Name x pos'] e pos) D σ H :=
  ⟨_, ps_set nm.nd (nm.pre i x hi) (nd.loc x (List.mem_of_getElem? hi)).1 pe_v hs (nd.loc x (List.mem_of_getElem? hi)).2, h⟩
theorem r_dg (nm : Nm X P w K mg base k M GL BL) {o i : Expr} (h : vE X o σ H fun x H1 => vE X i σ H1 fun y H2 => ∃ a v, x = .ref a ∧ DGet H2 a y (some v) ∧ Q v H2) (hs : NoSl i := by exact fun _ _ => rfl) : vE X (.Subscript o i pos) σ H Q := ⟨_, pe_dget nm.hu1 pe_v pe_v hs, h⟩
theorem r_get1 (nm : Nm X P w K mg base k M GL BL) {o i : Expr} {ap : Pos} (h : vE X o σ H fun x H1 => ∃ a, x = .ref a ∧ IsD H1 a ∧ vE X i σ H1 fun y H2 => ∃ o, DGet H2 a y o ∧ Q (o.getD .non) H2) (m : M1 X o "get" ap i pos := by exact ⟨rfl, rfl, rfl, rfl⟩) : vE X (.Call (.Attribute o "get" ap) [i] [] pos) σ H Q := ⟨_, pe_dget1 nm.hu1 pe_v pe_v m, h⟩
theorem r_dput (nm : Nm X P w K mg base k M GL BL) {o i value : Expr} (h : vE X value σ H fun v H1 => vE X o σ H1 fun x H2 => vE X i σ H2 fun y H3 => ∃ a H', x = .ref a ∧ DPut H3 a y v H' ∧ D.nx σ H') (hs : swapsWith value (some (.Subscript o i pos')) pos.line X.env = pure false := by rfl) : vS X (.Assign [.Subscript o i pos'] value pos) D σ H := ⟨_, ps_dput nm.hu1 pe_v pe_v pe_v hs, h⟩
/-- a state by which a while goes round -/
theorem r_while (nd : Nd X M) {t : Expr} {body : List Stmt} (W : Nat → L2.St → Hp → Prop) (m0 : Nat) (h0 : W m0 σ H) (hb : ∀ m σ' H', W m σ' H' → vT X t σ' H' fun b H2 => if b = true then ∃ N : L2.St → Hp → Prop, (∀ σ3 H3, N σ3 H3 → ∃ m', m' < m ∧ W m' σ3 H3) ∧ vSs X body { D with nx := N, ct := N, bk := D.nx } σ' H2 else D.nx σ' H2) : vS X (.While t body [] pos) D σ H :=
  ⟨_, ps_while nd.own pt_v pss_v, W, ⟨m0, h0⟩, hb⟩
/-- is a number, is not None -/
theorem r_notNone {a : Expr} {j : Nat} {Q : Bool → Hp → Prop} (h : vE X a σ H fun x H1 => ∃ b, V.bl (!decide (x = .non)) = .bl b ∧ Q b H1) : vT X (.Compare a [.IsNot] [.Constant .none j p1] pos) σ H Q := ⟨_, pt_cmp (pc_notN pe_v), h⟩
/-- a statement of which the slots' cells are told, in a row told by hand -/
theorem XS.raw {st : Stmt} {G0 H0 G : Hp} {N : List Cell → Prop} (h : XS X cs st { nx := N, rt := fun _ => False }) (en : Env X.K G0 H0 G H σ cs) (k : ∀ G' H' σ' cs', N cs' → Env X.K G0 H0 G' H' σ' cs' → Ex G G' → D.nx σ' H') : vS X st D σ H :=
  h en ⟨k, fun _ _ _ _ z => z.elim, fun _ _ _ _ z => z.elim, fun _ _ _ _ z => z.elim, fun _ _ _ _ z => z.elim⟩
end
end Fw

set_option maxRecDepth 100000
set_option maxHeartbeats 4000000
/-! y = [elt for k in d if ..]; where a def starts -/
namespace Fw
open PySem PySem.Spec PyProof.Rows L2
open Evl (Ex)
section
variable {X : Cx} {P : Program} {w : World} {K : PySem.W.Frag} {mg : Str → Option Value} {base : Heap} {k : Nat} {M : List (Option Str)} {GL BL : List Str} {cs cs' : List Cell} {pos p pos' p1 p2 p3 : Pos} {Po : Po}
theorem lcK_core {elt : Expr} {ifs : List Expr} {scope : Scope} {x y : Str} {j i : Nat} {kvs : List (Key × PyData)} {hs' : List (Key × V)} {d : Addr} {tpos : Pos} (acc : Nat → List PyData) (h0 : acc 0 = []) (hn : kvs.length ≤ 90000)
    (hN : X.N[i]? = some y) (hv : Vis X.env.scope y) (hd : (y == ("__debug__" : Str)) = false) (hcd : (y == ("__classdict__" : Str)) = false) {σ : L2.St} (hv1 : σ[i]? = some (some (.ref d)))
    (hs : ∀ i d, (keysD kvs)[i]? = some d → ∃ b, (∀ B : Bk, XTs (B.cx X scope) ((cs.map Cell.lk).set j (.dat d)) ifs b) ∧ (b = true → ∃ y, (∀ B : Bk, XE (B.cx X scope) ((cs.map Cell.lk).set j (.dat d)) elt (.dat y)) ∧ acc (i + 1) = acc i ++ [y]) ∧ (b = false → acc (i + 1) = acc i))
    {G0 H0 G H : Hp} {o : Obj} {Q : VK} (en : Env X.K G0 H0 G H σ (cs.map Cell.lk)) (hG : G d = some (.frz o (.dK hs'))) (kv : KvOk G hs' kvs) (q : ∀ v G' H', Ext G H G' H' → ROk X.K H G' H' v (.own (acc kvs.length)) → Q v H') : tLc (vI X (.Name x tpos) (.Name y p)) (gName j) (fTs X scope ifs) (fE X scope elt) [j] σ H Q := by
    have kl : (keysD kvs).length = kvs.length := by unfold keysD; rw [List.length_map]
    refine vi_keys en hN hv hd hcd hv1 hG kv fun J ⟨Y, w, yy⟩ => fun D hD => ?_
    have hGD : G D = none := Evl.fresh_back en.gh hD
    refine lc_it w (fun i H' => ∃ G', Ex G G' ∧ Ext G H G' H' ∧ G' D = none ∧ (acc i).length ≤ i ∧ ∃ ts, H' D = some (.lst ts) ∧ DtA G' ts (acc i)) ?_ (fun i H' _ ⟨G', e, x, _⟩ => e.trans x.gh) ?_ ?_
    · exact ⟨G, Evl.Ex.refl _, (Ext.refl en.gh).mut hD hGD, hGD, by rw [h0]; exact Nat.zero_le _, [], upd_same, by rw [h0]; exact .nil⟩
    · rintro i x H' H2 hi' ⟨G', e, x', gD, hl, ts, hts, ha⟩ yv
      obtain ⟨G2, d, x2, hd, r2⟩ := yy i H' x H2 hi' (e.trans x'.gh) yv G' e x'.gh
      refine ⟨wipe_set1, ?_⟩
      have env2 : Env X.K G0 H0 G2 H2 ((wipe σ [j]).set j (some x)) ((cs.map Cell.lk).set j (.dat d)) := by
        have e1 := ((en.step (x'.trans x2)).wipe j).set (Ext.refl x2.gh) (c := .dat d) (v := x) r2 j
        rw [List.set_set (l := cs.map Cell.lk)] at e1
        exact e1
      obtain ⟨b, hb, h1, h2⟩ := hs i d hd
      intro B
      refine hb B env2 fun H3 e3 => ?_
      have x3 : Ext G H G2 H3 := (x'.trans x2).trans (Ext.heap x2.gh e3)
      have g2D : G2 D = none := x2.apart gD hts
      have h3D : H3 D = some (.lst ts) := e3 _ _ (x2.eh _ _ hts)
      cases b with
      | true =>
        rw [if_pos rfl]
        obtain ⟨z, hz, ea⟩ := h1 rfl
        intro B'
        refine hz B' (env2.step (Ext.heap x2.gh e3)) fun v G4 H4 x4 r4 => ?_
        have g4D : G4 D = none := x4.apart g2D h3D
        refine ⟨ts, x4.eh _ _ h3D, by rw [dpa_len ha]; exact Evl.sz_lt (by rw [kl] at hi'; omega), G4, (e.trans x2.eg).trans x4.eg, (x3.trans x4).mut hD g4D, g4D, by rw [ea, List.length_append]; exact Nat.add_le_add hl (Nat.le_refl 1), _, upd_same, ?_⟩
        rw [ea]
        exact dpa_append (dpa_mono (x2.eg.trans x4.eg) _ _ ha) (dpa_one r4)
      | false =>
        rw [if_neg (by decide)]
        refine ⟨G2, e.trans x2.eg, x3, g2D, by rw [h2 rfl]; exact Nat.le_succ_of_le hl, ts, h3D, ?_⟩
        rw [h2 rfl]
        exact dpa_mono x2.eg _ _ ha
    · rintro H' ⟨G', e, x', gD, hl, ts, hts, ha⟩
      rw [kl] at ha
      exact q _ G' H' x' ⟨D, ts, rfl, hD, gD, hts, ha⟩

theorem x_setLcKeys (l : Nat) {elt : Expr} {ifs : List Expr} {scope : Scope} {x y z : Str} {j i : Nat} {kvs : List (Key × PyData)} {tpos py spos : Pos} (acc : Nat → List PyData) (h0 : acc 0 = []) (hn : kvs.length ≤ 90000)
    (hN : X.N[i]? = some y) (hv : Vis X.env.scope y) (hd : (y == ("__debug__" : Str)) = false) (hcd : (y == ("__classdict__" : Str)) = false) (hsl : (cs.map Cell.lk)[i]? = some (.ldc kvs))
    (ok : BlkOk X.N X.env.scope scope [(x, j)]) (hc : X.calm = true) (hNd : X.N.Nodup) (hj : X.N[j]? = some x) (hx : ∀ B : Bk, Loc (B.cx X scope).env.scope x) (hfn : ∀ B : Bk, (B.cx X scope).fn x = true ∨ (B.cx X scope).env.scope.names.lookup x = some .local)
    (hs : ∀ i d, (keysD kvs)[i]? = some d → ∃ b, (∀ B : Bk, XTs (B.cx X scope) ((cs.map Cell.lk).set j (.dat d)) ifs b) ∧ (b = true → ∃ y, (∀ B : Bk, XE (B.cx X scope) ((cs.map Cell.lk).set j (.dat d)) elt (.dat y)) ∧ acc (i + 1) = acc i ++ [y]) ∧ (b = false → acc (i + 1) = acc i))
    (hy : X.N[l]? = some z) (hyl : X.env.scope.names.lookup z = some .local) (hsw : swapsWith (.ListComp elt [⟨.Name x tpos, .Name y p, ifs, 0⟩] scope pos) (some (.Name z py)) spos.line X.env = pure true) (kn : Po.nx ((cs.map Cell.lk).set l (.own (acc kvs.length)))) :
    XS X cs (.Assign [.Name z py] (.ListComp elt [⟨.Name x tpos, .Name y p, ifs, 0⟩] scope pos) spos) Po := .mk fun {G0 H0 G H σ} en0 D r => by
  have en := env_lk en0
  obtain ⟨v, hv1, d, hs', rfl, rd, kv⟩ := en.ok i _ hsl (by intro z; cases z)
  have ps := ps_setLc (X := X) (tt := fTs X scope ifs) (te := fE X scope elt) (i := l) (own := [(x, j)]) (g := gName j) (pos := pos) (spos := spos) (py := py) (wi := vI X (.Name x tpos) (.Name y p)) hc hNd hy hyl hsw pi_v ok (fun s H C cl fp => pg_name hNd hj (hx ⟨s, H, C, cl, fp⟩) (hfn ⟨s, H, C, cl, fp⟩)) (fun s H C cl fp => ⟨fun pins s' σ H' Q I h => pts_v.run (X := (Bk.mk s H C cl fp).cx X scope) (ifs := ifs) pins s' σ H' Q I (h ⟨s, H, C, cl, fp⟩)⟩)
    (fun s H C cl fp => ⟨fun pins s' σ H' Q I h => pe_v.run (X := (Bk.mk s H C cl fp).cx X scope) (e := elt) pins s' σ H' Q I (h ⟨s, H, C, cl, fp⟩)⟩) (by intro _; rfl)
  rcases rd with hG | ⟨o, hG⟩
  · refine ⟨_, ps_lock ps, d, .dK hs', en.gh _ _ hG, trivial, fun od => ?_⟩
    have z := Env.lock (od := od) en hG
    rw [lk_lk] at z
    rw [lkf_upd (en.gh _ _ hG)]
    have zG : lkf d (.frz od (.dK hs')) G d = some (.frz od (.dK hs')) := by rw [lkf_eq, hG]; rfl
    have nq : ∀ w, G d = some w → NoSeq w := fun w hw => by
      rw [hG] at hw
      cases hw
      exact nd_dK
    refine lcK_core acc h0 hn hN hv hd hcd hv1 hs z zG (kv_lk nq kv) fun v G' H' x r' => ?_
    have gd := x.eg _ _ zG
    have hH := x.gh _ _ gd
    refine ⟨hH, ?_⟩
    rw [lkf_upd hH]
    obtain ⟨u1, u2⟩ := Ext.unlock (Ext.refl en.gh) hG x x.eg
    exact r.nx _ _ _ _ kn (en.set u1 (ROk.unlock gd r') l) u2
  · exact ⟨_, ps, lcK_core acc h0 hn hN hv hd hcd hv1 hs en hG kv fun v G' H' x1 r1 => r.nx _ _ _ _ kn (en.set x1 r1 l) x1.eg⟩
theorem setLcgK (nm : Nm X P w K mg base k M GL BL) {N : List Str} {sc scope : Scope} (hN : X.N = N) (hsc : X.env.scope = sc) {x y z : Str} (j : Nat) {elt : Expr} {ifs : List Expr} {kvs : List (Key × PyData)} {tpos py spos : Pos} {cl : List Cell} (acc : Nat → List PyData) (h0 : acc 0 = []) (hn : kvs.length ≤ 90000) (hl : Lk cs cl) (hsl : Sel M cl y (.ldc kvs))
    (hok : lcB N sc scope x j = true) (hu : Upd M cl z (.own (acc kvs.length)) cs') (hyl : X.env.scope.names.lookup z = some .local) (hsw : swapsWith (.ListComp elt [⟨.Name x tpos, .Name y p, ifs, 0⟩] scope pos) (some (.Name z py)) spos.line X.env = pure true)
    (hs : ∀ i d, (keysD kvs)[i]? = some d → ∃ b, (∀ B : Bk, XTs (B.cx X scope) (cl.set j (.dat d)) ifs b) ∧ (b = true → ∃ y, (∀ B : Bk, XE (B.cx X scope) (cl.set j (.dat d)) elt (.dat y)) ∧ acc (i + 1) = acc i ++ [y]) ∧ (b = false → acc (i + 1) = acc i)) (kn : Po.nx cs') :
    XS X cs (.Assign [.Name z py] (.ListComp elt [⟨.Name x tpos, .Name y p, ifs, 0⟩] scope pos) spos) Po := by
  subst hN
  subst hsc
  have he := hl.eq
  subst he
  unfold lcB at hok
  rw [Bool.and_eq_true, Bool.and_eq_true] at hok
  obtain ⟨⟨h1, h2⟩, h3⟩ := hok
  have h2' : (relS scope X.env.scope).names.lookup x = some .local := by
    split at h2
    · assumption
    · cases h2
  obtain ⟨i, hi1, hi2⟩ := hsl.ix
  have hm := List.mem_of_getElem? hi1
  obtain ⟨l, l1, rfl⟩ := hu.ix
  exact x_setLcKeys l acc h0 hn (nm.pre i y hi1) (nm.vis y hm) (nm.dbg y hm).1 (nm.dbg y hm).2 hi2 (blkOk_by h1) nm.calm nm.nd (of_decide_eq_true h3) (fun B => .inl h2') (fun B => .inr h2') hs (nm.pre l z l1) hyl hsw kn
end
/-- where a def starts -/
theorem env_start {K : PySem.W.Frag} {G H : Hp} {vs : List V} {cl : List Cell} {N : List Str} (gh : Ex G H) (h : Paired (FrOk K G) vs cl) : Env K G H G H (L2.start N vs) (cl ++ List.replicate (N.length - vs.length) .un) := by
  refine Env.start (fun i c hc n => ?_) gh ?_
  · have hc' : cl[i]? = some c := by
      by_cases hi : i < cl.length
      · rw [List.getElem?_append_left hi] at hc
        exact hc
      · rw [List.getElem?_append_right (by omega)] at hc
        have := List.mem_of_getElem? hc
        rw [List.mem_replicate] at this
        exact absurd this.2 n
    obtain ⟨v, h1, h2⟩ := paired_get h hc'
    refine ⟨v, ?_, h2⟩
    have hi : i < vs.length := (List.getElem?_eq_some_iff.mp h1).1
    unfold L2.start
    rw [List.getElem?_append_left (by rw [List.length_map]; exact hi), List.getElem?_map, h1]
    rfl
  · unfold L2.start
    rw [List.length_append, List.length_map, List.length_replicate, List.length_append, List.length_replicate, paired_len h]
end Fw

set_option maxRecDepth 100000
set_option maxHeartbeats 4000000
namespace K8
open PySem PySem.Spec PyProof.Rows L2 Fw Bus
open Dj (Best dist)
local macro_rules | `(tactic| walk_at "sel") => `(tactic| repeat (first | with_reducible apply Sel.z | apply Sel.s))
local macro_rules | `(tactic| walk_at "upd") => `(tactic| repeat (first | with_reducible apply Upd.z | apply Upd.s))
local macro_rules | `(tactic| walk_at "has") => `(tactic| repeat (first | with_reducible apply Has.z | apply Has.s))
local macro_rules | `(tactic| walk_at "fz") => `(tactic| repeat (first | exact Fz.nil | apply Fz.un | apply Fz.dat | apply Fz.scr | apply Fz.rng | apply Fz.dic | apply Fz.ldc | apply Fz.own | apply Fz.odi | apply Fz.any))
local macro_rules | `(tactic| walk_at "bi") => `(tactic| first | with_reducible exact BI.len | with_reducible exact BI.max | with_reducible exact BI.min | with_reducible exact BI.all | with_reducible exact BI.any | with_reducible exact BI.sorted | with_reducible exact BI.sum | with_reducible exact BI.abs)
local macro_rules | `(tactic| walk_at "bt") => `(tactic| first | with_reducible exact BT.list | with_reducible exact BT.tuple | with_reducible exact BT.str | with_reducible exact BT.int | with_reducible exact BT.bool | with_reducible exact BT.dict)
local macro_rules | `(tactic| walk_at "bd") => `(tactic| first | exact bd_add | exact bd_sub | (apply bd_mod <;> try decide) | (apply bd_fdiv <;> try decide) | apply bd_adds | apply bd_muls | apply bd_mul | apply bd_cat)
local macro_rules | `(tactic| walk_at "cd") => `(tactic| first | exact cd_lt | exact cd_le | exact cd_gt | exact cd_ge | exact cd_eqi | exact cd_nei | exact cd_eqs | exact cd_nes | exact cd_inSign | apply cd_eqD (Nm.hu (by assumption)) | apply cd_neD (Nm.hu (by assumption)) | apply cd_inD (Nm.hu5 (by assumption)) | apply cd_notInD (Nm.hu5 (by assumption)))
local macro_rules | `(tactic| walk_at "id") => `(tactic| first | (apply id_l <;> try first | assumption | rfl) | (apply id_t <;> try first | assumption | rfl) | (apply id_s <;> try first | assumption | (show Str.length _ ≤ sizeLine; decide +kernel)))
local macro_rules | `(tactic| walk_at "cl") => `(tactic| first | exact cl_lenL | exact cl_lenT | apply cl_lenS | exact cl_list | exact cl_max2 (Nm.calm (by assumption)) | exact cl_all (Nm.calm (by assumption)))
local macro_rules | `(tactic| walk_at "x") => `(tactic| first
  | exact xe_int | exact xe_str | exact xe_bl | exact xe_non
  | (apply ve; · assumption
     · walk_at "sel")
  | (apply ve'; · assumption
     · walk_at "sel"
     all_goals (first | rfl | (intro z; cases z; done)))
  | (apply gle_int; · assumption
     · walk_at "has"
     · with_reducible assumption)
  | (apply gle_str; · assumption
     · walk_at "has"
     · with_reducible assumption)
  | (show Nm _ _ _ _ _ _ _ _ _ _; assumption)
  | (apply xe_bin <;> try walk_at "x") | walk_at "bd"
  | (apply xt_cmp <;> try walk_at "x") | (apply xe_cmp <;> try walk_at "x") | walk_at "cd"
  | (show behindInMarks _ _ = false; first | exact nomark _ | rfl)
  | (apply xt_not <;> try walk_at "x") | (apply xe_not <;> try walk_at "x")
  | (apply xe_unop <;> try walk_at "x") | exact ud_neg
  | (apply xt_pw; apply xw_and <;> try walk_at "x") | (apply xt_pw; apply xw_or <;> try walk_at "x")
  | (apply xw_and <;> try walk_at "x") | (apply xw_or <;> try walk_at "x") | (apply xw_and1 <;> try walk_at "x") | (apply xw_or1 <;> try walk_at "x")
  | (apply xe_and <;> try walk_at "x") | (apply xe_or <;> try walk_at "x") | (apply xe_one <;> try walk_at "x")
  | (apply cisi; · assumption
     · walk_at "bt"
     · walk_at "has"
     · walk_at "has"
     · walk_at "has"
     · walk_at "has"
     all_goals try walk_at "x")
  | (apply cbi; · assumption
     · walk_at "bi"
     · walk_at "has"
     · walk_at "has"
     all_goals try walk_at "x")
  | (apply cty; · assumption
     · walk_at "bt"
     · walk_at "has"
     · walk_at "has"
     all_goals walk_at "x")
  | (apply xe_fr (c := .own _)
     (apply cty; · assumption
      · walk_at "bt"
      · walk_at "has"
      · walk_at "has"
      all_goals walk_at "x"))
  | (apply cty; · assumption
     · walk_at "bt"
     · walk_at "has"
     · walk_at "has"
     all_goals try walk_at "x")
  | walk_at "cl"
  | exact xd_nil | (apply xd_cons <;> try walk_at "x") | exact xa_nil | (apply xa_c <;> try walk_at "x")
  | (apply xe_list <;> try walk_at "x") | (apply xe_tup <;> try walk_at "x")
  | (apply xe_ix <;> try walk_at "x") | walk_at "id"
  | (show PlainIx _; exact fun _ _ => rfl)
  | (apply xt_chainI op_le op_le <;> try walk_at "x") | (apply xt_chainI op_le op_lt <;> try walk_at "x") | (apply xe_chainI op_le op_le <;> try walk_at "x") | (apply xe_chainI op_le op_lt <;> try walk_at "x")
  | (apply xt_val <;> try walk_at "x")
  | (apply xe_fr (c := .own _) <;> try walk_at "x")
  | (show List.length _ ≤ 100000; exact Nat.le_of_ble_eq_true rfl)
  | (show lastMarks _ _ = false; with_unfolding_all rfl)
  | (show _ = _; rfl)
  | (intro _; walk_at "x"))
open Kg (Mt Rch Reach keys Dead Flip Flipped put)
open Evl (Ex)
/-- nothing tracked: for what is flat -/
abbrev Hp0 : Hp := fun _ => none
structure APr where
  n : Nat
  B : List (List Nat)
  nx : Kg.Fn
  ah : Kg.Fn
  M : Mt (bOf B) nx ah
  hx : ∀ i j, nx i = some j → i < n
  y : Nat
  hyn : y < n
  hy : nx y = none
  F : List Kg.Fd
  R : Reach n (bOf B) ah (fun x => x = y) F
  DL : Nat → Prop
  DR : Nat → Prop
  D : Dead (bOf B) ah DL DR
  p : Nat
  free : Nat
  hp : ∃ x, F[p]? = some (free, x)
  hf : ah free = none
  hn : n ≤ 100
  kn : List (Key × PyData)
  ka : List (Key × PyData)
  tn : TellsN kn nx
  ta : TellsN ka ah
  sn : KeysN n kn
  sa : KeysN n ka
def spPair (K : PySem.W.Frag) : Sp := fun vs H Q _ => ∃ (a : APr) (pn pa pf : Addr) (hn ha hf : List (Key × V)), vs = [.ref pn, .ref pa, .ref pf, .int (a.free : Nat)] ∧ pn ≠ pa ∧ pf ≠ pn ∧ pf ≠ pa ∧ H pn = some (.dK hn) ∧ H pa = some (.dK ha) ∧ Rd H pf (.dK hf) ∧
  KvOk Hp0 hn a.kn ∧ KvOk Hp0 ha a.ka ∧ KvOk Hp0 hf (foundN a.F) ∧ ∀ hn' ha' kn' ka' nx' ah', KvOk Hp0 hn' kn' → KvOk Hp0 ha' ka' → TellsN kn' nx' → TellsN ka' ah' → KeysN a.n kn' → KeysN a.n ka' → Flipped (bOf a.B) a.nx a.ah a.y a.DR nx' ah' → Q .non (upd (upd H pn (.dK hn')) pa (.dK ha'))
theorem val_int {G : Hp} {hs : List (Key × V)} {kvs : List (Key × PyData)} (h : KvOk G hs kvs) {k : Key} {i : Int} (e : lookD kvs k = some (.int i)) : valV hs k = some (.int i) := by
  obtain ⟨v, h1, h2⟩ := kv_some h e
  cases h2
  exact h1
section
variable {P : Program} {w : World} {K : PySem.W.Frag} {mg : Str → Option Value} {base : Heap}
theorem ok_pair_anew {f : Addr} {fd : FuncData} {k : Nat} (F : Fun K "pair_anew" "pair_anew" s_pair_anew f fd) (hb : Bl mg) : FnOk P w K mg base CX0 (k + 1) f fd ["nexts", "ahead", "found", "free"] (spPair K) := by
  refine F.ok sc_pair_anew (fun vs H Q E h => ?_) (fun cdv A outer s H vs Q E hr h => ?_)
  · obtain ⟨a, pn, pa, pf, hn, ha, hf, rfl, _⟩ := h
    rfl
  obtain ⟨nm, nd⟩ := nm_pair_anew (P := P) (w := w) (K := K) (mg := mg) (base := base) (outer := outer) (H := H) (E := E) hb hr
  obtain ⟨a, pn, pa, pf, hn, ha, hf, rfl, npa, nfn, nfa, en, ea, ef, kn, ka, kf, q⟩ := h
  obtain ⟨n, B, nx, ah, M, hx, y, hyn, hy, F, R, DL, DR, DD, p, free, hp, hfr, hn100, dn, da, tn, ta, sn, sa⟩ := a
  refine ⟨_, pss_v, ?_⟩
  show vSs _ _ _ [some (.ref pn), some (.ref pa), some (.ref pf), some (.int (free : Nat)), none, none, none] H
  refine rs_cons (r_set nm nd (i := 4) rfl (r_var nm (i := 3) rfl rfl ?_))
  refine rs_cons (r_while nd (fun m σ H' => ∃ hn' ha' kn' ka' nx' ah' ov v5 v6, σ = [some (.ref pn), some (.ref pa), some (.ref pf), some (.int (free : Nat)), some ov, v5, v6] ∧ H' = upd (upd H pn (.dK hn')) pa (.dK ha') ∧ KvOk Hp0 hn' kn' ∧ KvOk Hp0 ha' ka' ∧ TellsN kn' nx' ∧ TellsN ka' ah' ∧ KeysN n kn' ∧ KeysN n ka' ∧
    ((∃ p o, ov = .int (o : Nat) ∧ m = p + 1 ∧ Flip (bOf B) nx ah y F DR nx' ah' p o) ∨ (ov = .non ∧ m = 0 ∧ Flipped (bOf B) nx ah y DR nx' ah'))) (p + 1) ⟨hn, ha, dn, da, nx, ah, _, _, _, rfl, ?_, kn, ka, tn, ta, sn, sa, .inl ⟨p, free, rfl, rfl, .start M hy DD hp hfr⟩⟩ ?_)
  · funext b
    by_cases c : b = pa
    · subst c
      rw [upd_same, ea]
    · rw [upd_ne c]
      by_cases c2 : b = pn
      · subst c2
        rw [upd_same, en]
      · rw [upd_ne c2]
  rintro m σ H' ⟨hn', ha', kn', ka', nx', ah', ov, v5, v6, rfl, rfl, okn, oka, tn', ta', sn', sa', hcase⟩
  refine r_notNone (r_var nm (i := 4) rfl rfl ⟨_, rfl, ?_⟩)
  rcases hcase with ⟨p', o, rfl, rfl, I⟩ | ⟨rfl, rfl, Z⟩
  · obtain ⟨x, hx'⟩ := I.at_
    have hxk : o ∈ keys F := by unfold keys; exact List.mem_map.mpr ⟨_, List.mem_of_getElem? hx', rfl⟩
    have hlk : lookD (foundN F) (.inl (o : Nat)) = some (.int (x : Nat)) := by
      rcases foundN_look R.nd o with ⟨z, h1, _, l⟩ | ⟨h1, _⟩
      · have k1 : (keys F).Nodup := R.nd
        obtain ⟨p2, hp2⟩ := List.mem_iff_getElem?.mp h1
        have e1 : (keys F)[p']? = some o := by unfold keys; rw [List.getElem?_map, hx']; rfl
        have e2 : (keys F)[p2]? = some o := by unfold keys; rw [List.getElem?_map, hp2]; rfl
        have l1 := (List.getElem?_eq_some_iff.mp e1).1
        have : p' = p2 := (List.getElem?_inj l1 R.nd).mp (by rw [e1, e2])
        subst this
        rw [hx'] at hp2
        cases hp2
        exact l
      · exact absurd hxk h1
    have hxn : x < n := by
      rcases (R.ent p' o x hx').2 with h | ⟨_, o', _, _, _, e⟩
      · rw [h]; exact hyn
      · exact hx _ _ (M.an _ _ e)
    have hon : o < n := R.lt o hxk
    have hpn : (upd (upd H pn (.dK hn')) pa (.dK ha')) pn = some (.dK hn') := by rw [upd_ne npa, upd_same]
    have hpf : Rd (upd (upd H pn (.dK hn')) pa (.dK ha')) pf (.dK hf) := by
      rcases ef with ef | ⟨ob, ef⟩
      · exact .inl (by rw [upd_ne nfa, upd_ne nfn]; exact ef)
      · exact .inr ⟨ob, by rw [upd_ne nfa, upd_ne nfn]; exact ef⟩
    rw [if_pos (by simp)]
    refine ⟨fun σ3 H3 => ∃ m', m' < p' + 1 ∧ _, fun σ3 H3 h => h, ?_⟩
    refine rs_cons (r_set nm nd (i := 5) rfl (r_dg nm (r_var nm (i := 2) rfl rfl (r_var nm (i := 4) rfl rfl ⟨pf, .int (x : Nat), rfl, .inl ⟨hf, .inl (o : Nat), hpf, rfl, (val_int kf hlk).symm⟩, ?_⟩))))
    have tg := tn' x
    refine rs_cons (r_set nm nd (i := 6) rfl (r_get1 nm (r_var nm (i := 0) rfl rfl ⟨pn, rfl, .inl ⟨hn', Rd.of hpn⟩, r_var nm (i := 5) rfl rfl ?_⟩)))
    have hput1 : KvOk Hp0 (putK hn' (.inl (x : Nat)) (.int (o : Nat))) (putD kn' (.inl (x : Nat)) (.int (o : Nat))) := kv_put okn (.int _)
    have hput2 : KvOk Hp0 (putK ha' (.inl (o : Nat)) (.int (x : Nat))) (putD ka' (.inl (o : Nat)) (.int (x : Nat))) := kv_put oka (.int _)
    have st := I.step M hy R DD hx'
    have hgiv : ∃ gv : V, (∃ o2, DGet (upd (upd H pn (.dK hn')) pa (.dK ha')) pn (.int (x : Nat)) o2 ∧ o2.getD .non = gv) ∧ ((nx' x = none ∧ gv = .non) ∨ ∃ g, nx' x = some g ∧ gv = .int (g : Nat)) := by
      cases e : nx' x with
      | none =>
        rw [e] at tg
        exact ⟨.non, ⟨none, .inl ⟨hn', .inl (x : Nat), Rd.of hpn, rfl, (kv_none okn tg).symm⟩, rfl⟩, .inl ⟨rfl, rfl⟩⟩
      | some g =>
        rw [e] at tg
        exact ⟨.int (g : Nat), ⟨some (.int (g : Nat)), .inl ⟨hn', .inl (x : Nat), Rd.of hpn, rfl, (val_int okn tg).symm⟩, rfl⟩, .inr ⟨g, rfl, rfl⟩⟩
    obtain ⟨gv, ⟨o2, hdg, rfl⟩, hgv⟩ := hgiv
    refine ⟨o2, hdg, ?_⟩
    refine rs_cons (r_dput nm (r_var nm (i := 4) rfl rfl (r_var nm (i := 0) rfl rfl (r_var nm (i := 5) rfl rfl ⟨pn, _, rfl, .inl ⟨hn', .inl (x : Nat), hpn, rfl, by rw [kv_len okn]; exact Evl.sz_lt (by have := keysN_len sn'; omega), rfl⟩, ?_⟩))))
    have hpa2 : (upd (upd (upd H pn (.dK hn')) pa (.dK ha')) pn (.dK (putK hn' (.inl (x : Nat)) (.int (o : Nat))))) pa = some (.dK ha') := by rw [upd_ne (fun z => npa z.symm), upd_same]
    refine rs_cons (r_dput nm (r_var nm (i := 5) rfl rfl (r_var nm (i := 1) rfl rfl (r_var nm (i := 4) rfl rfl ⟨pa, _, rfl, .inl ⟨ha', .inl (o : Nat), hpa2, rfl, by rw [kv_len oka]; exact Evl.sz_lt (by have := keysN_len sa'; omega), rfl⟩, ?_⟩))))
    refine rs_cons (r_set nm nd (i := 4) rfl (r_var nm (i := 6) rfl rfl (rs_nil ?_)))
    have heq : upd (upd (upd (upd H pn (.dK hn')) pa (.dK ha')) pn (.dK (putK hn' (.inl (x : Nat)) (.int (o : Nat))))) pa (.dK (putK ha' (.inl (o : Nat)) (.int (x : Nat)))) = upd (upd H pn (.dK (putK hn' (.inl (x : Nat)) (.int (o : Nat))))) pa (.dK (putK ha' (.inl (o : Nat)) (.int (x : Nat)))) := by
      funext b
      by_cases c : b = pa
      · subst c
        rw [upd_same, upd_same]
      · rw [upd_ne c, upd_ne c]
        by_cases c2 : b = pn
        · subst c2
          rw [upd_same, upd_same]
        · rw [upd_ne c2, upd_ne c, upd_ne c2, upd_ne c2]
    rcases hgv with ⟨e, eg⟩ | ⟨g, e, eg⟩
    · rcases st with ⟨_, Z⟩ | ⟨g, q', e', _⟩
      · exact ⟨0, by omega, _, _, _, _, _, _, _, _, _, rfl, heq, hput1, hput2, tellsN_put tn' x o, tellsN_put ta' o x, keysN_put sn' hxn rfl, keysN_put sa' hon rfl, .inr ⟨eg, rfl, Z⟩⟩
      · rw [e] at e'
        cases e'
    · rcases st with ⟨e', _⟩ | ⟨g', q', e', lt, I'⟩
      · rw [e] at e'
        cases e'
      · rw [e] at e'
        cases e'
        exact ⟨q' + 1, by omega, _, _, _, _, _, _, _, _, _, rfl, heq, hput1, hput2, tellsN_put tn' x o, tellsN_put ta' o x, keysN_put sn' hxn rfl, keysN_put sa' hon rfl, .inl ⟨q', g, eg, rfl, I'⟩⟩
  · rw [if_neg (by simp)]
    exact rs_nil (q _ _ _ _ _ _ okn oka tn' ta' sn' sa' Z)
end
end K8

set_option maxRecDepth 100000
set_option maxHeartbeats 4000000
namespace K8
open PySem PySem.Spec PyProof.Rows L2 Fw Bus
open Dj (Best dist)
local macro_rules | `(tactic| walk_at "sel") => `(tactic| repeat (first | with_reducible apply Sel.z | apply Sel.s))
local macro_rules | `(tactic| walk_at "upd") => `(tactic| repeat (first | with_reducible apply Upd.z | apply Upd.s))
local macro_rules | `(tactic| walk_at "has") => `(tactic| repeat (first | with_reducible apply Has.z | apply Has.s))
local macro_rules | `(tactic| walk_at "fz") => `(tactic| repeat (first | exact Fz.nil | apply Fz.un | apply Fz.dat | apply Fz.scr | apply Fz.rng | apply Fz.dic | apply Fz.ldc | apply Fz.own | apply Fz.odi | apply Fz.any))
local macro_rules | `(tactic| walk_at "bi") => `(tactic| first | with_reducible exact BI.len | with_reducible exact BI.max | with_reducible exact BI.min | with_reducible exact BI.all | with_reducible exact BI.any | with_reducible exact BI.sorted | with_reducible exact BI.sum | with_reducible exact BI.abs)
local macro_rules | `(tactic| walk_at "bt") => `(tactic| first | with_reducible exact BT.list | with_reducible exact BT.tuple | with_reducible exact BT.str | with_reducible exact BT.int | with_reducible exact BT.bool | with_reducible exact BT.dict)
local macro_rules | `(tactic| walk_at "bd") => `(tactic| first | exact bd_add | exact bd_sub | (apply bd_mod <;> try decide) | (apply bd_fdiv <;> try decide) | apply bd_adds | apply bd_muls | apply bd_mul | apply bd_cat)
local macro_rules | `(tactic| walk_at "cd") => `(tactic| first | exact cd_lt | exact cd_le | exact cd_gt | exact cd_ge | exact cd_eqi | exact cd_nei | exact cd_eqs | exact cd_nes | exact cd_inSign | apply cd_eqD (Nm.hu (by assumption)) | apply cd_neD (Nm.hu (by assumption)) | apply cd_inD (Nm.hu5 (by assumption)) | apply cd_notInD (Nm.hu5 (by assumption)))
local macro_rules | `(tactic| walk_at "id") => `(tactic| first | (apply id_l <;> try first | assumption | rfl) | (apply id_t <;> try first | assumption | rfl) | (apply id_s <;> try first | assumption | (show Str.length _ ≤ sizeLine; decide +kernel)))
local macro_rules | `(tactic| walk_at "cl") => `(tactic| first | exact cl_lenL | exact cl_lenT | apply cl_lenS | exact cl_list | exact cl_max2 (Nm.calm (by assumption)) | exact cl_all (Nm.calm (by assumption)))
local macro_rules | `(tactic| walk_at "x") => `(tactic| first
  | exact xe_int | exact xe_str | exact xe_bl | exact xe_non
  | (apply ve; · assumption
     · walk_at "sel")
  | (apply ve'; · assumption
     · walk_at "sel"
     all_goals (first | rfl | (intro z; cases z; done)))
  | (apply gle_int; · assumption
     · walk_at "has"
     · with_reducible assumption)
  | (apply gle_str; · assumption
     · walk_at "has"
     · with_reducible assumption)
  | (show Nm _ _ _ _ _ _ _ _ _ _; assumption)
  | (apply xe_bin <;> try walk_at "x") | walk_at "bd"
  | (apply xt_cmp <;> try walk_at "x") | (apply xe_cmp <;> try walk_at "x") | walk_at "cd"
  | (show behindInMarks _ _ = false; first | exact nomark _ | rfl)
  | (apply xt_not <;> try walk_at "x") | (apply xe_not <;> try walk_at "x")
  | (apply xe_unop <;> try walk_at "x") | exact ud_neg
  | (apply xt_pw; apply xw_and <;> try walk_at "x") | (apply xt_pw; apply xw_or <;> try walk_at "x")
  | (apply xw_and <;> try walk_at "x") | (apply xw_or <;> try walk_at "x") | (apply xw_and1 <;> try walk_at "x") | (apply xw_or1 <;> try walk_at "x")
  | (apply xe_and <;> try walk_at "x") | (apply xe_or <;> try walk_at "x") | (apply xe_one <;> try walk_at "x")
  | (apply cisi; · assumption
     · walk_at "bt"
     · walk_at "has"
     · walk_at "has"
     · walk_at "has"
     · walk_at "has"
     all_goals try walk_at "x")
  | (apply cbi; · assumption
     · walk_at "bi"
     · walk_at "has"
     · walk_at "has"
     all_goals try walk_at "x")
  | (apply cty; · assumption
     · walk_at "bt"
     · walk_at "has"
     · walk_at "has"
     all_goals walk_at "x")
  | (apply xe_fr (c := .own _)
     (apply cty; · assumption
      · walk_at "bt"
      · walk_at "has"
      · walk_at "has"
      all_goals walk_at "x"))
  | (apply cty; · assumption
     · walk_at "bt"
     · walk_at "has"
     · walk_at "has"
     all_goals try walk_at "x")
  | walk_at "cl"
  | exact xd_nil | (apply xd_cons <;> try walk_at "x") | exact xa_nil | (apply xa_c <;> try walk_at "x")
  | (apply xe_list <;> try walk_at "x") | (apply xe_tup <;> try walk_at "x")
  | (apply xe_ix <;> try walk_at "x") | walk_at "id"
  | (show PlainIx _; exact fun _ _ => rfl)
  | (apply xt_chainI op_le op_le <;> try walk_at "x") | (apply xt_chainI op_le op_lt <;> try walk_at "x") | (apply xe_chainI op_le op_le <;> try walk_at "x") | (apply xe_chainI op_le op_lt <;> try walk_at "x")
  | (apply xt_val <;> try walk_at "x")
  | (apply xe_fr (c := .own _) <;> try walk_at "x")
  | (show List.length _ ≤ 100000; exact Nat.le_of_ble_eq_true rfl)
  | (show lastMarks _ _ = false; with_unfolding_all rfl)
  | (show _ = _; rfl)
  | (intro _; walk_at "x"))
open Kg (Mt Rch Reach keys Dead Flip Flipped put)
open Evl (Ex)
structure PairedOk (n : Nat) (B : List (List Nat)) (nx ah : Kg.Fn) (kn ka : List (Key × PyData)) : Prop where
  M : Mt (bOf B) nx ah
  hx : ∀ i j, nx i = some j → i < n
  tn : TellsN kn nx
  ta : TellsN ka ah
  sn : KeysN n kn
  sa : KeysN n ka
structure ABeh where
  n : Nat
  B : List (List Nat)
  hB : B.length = n
  hb : ∀ i, ∀ j ∈ bOf B i, j < n
  hn : n ≤ 100
/-- two dicts in a new tuple -/
def Two (K : PySem.W.Frag) (G : Hp) (v : V) (kn ka : List (Key × PyData)) : Prop := ∃ T x y, v = .ref T ∧ G T = some (.tup [x, y]) ∧ FrOk K G x (.dic kn) ∧ FrOk K G y (.dic ka)
def spPaired (K : PySem.W.Frag) : Sp := fun vs H Q _ => ∃ (a : ABeh) (G : Hp), Ex G H ∧ Paired (FrOk K G) vs [.dat (.list (listsD a.B))] ∧ ∀ v G' H' nx ah kn ka DL DR, PairedOk a.n a.B nx ah kn ka → Dead (bOf a.B) ah DL DR → (∀ i < a.n, nx i = none → DL i) → Ext G H G' H' → Two K G' v kn ka → Q v H'
theorem xt_frz {X : Cx} {cs cs' : List Cell} (hf : Fz cs cs') {e : Expr} {b : Bool} (h : XT X cs' e b) : XT X cs e b := .mk fun en Q q => by
  have h' : XT X (cs.map Cell.fr) e b := by rw [hf.eq]; exact h
  exact h' en.frz q
theorem seal_odi {K : PySem.W.Frag} {G0 H0 G H : Hp} {σ : L2.St} {cs : List Cell} (en : Env K G0 H0 G H σ cs) : ∃ G2, Ext G0 H0 G2 H ∧ Ex G G2 ∧ ∀ (i : Nat) (kvs : List (Key × PyData)), cs[i]? = some (Cell.odi kvs) → ∃ v, σ[i]? = some (some v) ∧ FrOk K G2 v (.dic kvs) := by
  have x := en.ext
  refine ⟨fun a => if H0 a = none then H a else G a, ⟨fun a u h => ?_, x.eh, fun a u h => ?_, fun a g g' => ?_⟩, fun a u h => ?_, fun i kvs hi => ?_⟩
  · show (if H0 a = none then H a else G a) = some u
    split
    · exact en.gh _ _ (x.eg _ _ h)
    · exact x.eg _ _ h
  · have h : (if H0 a = none then H a else G a) = some u := h
    split at h
    · exact h
    · exact en.gh _ _ h
  · have g' : (if H0 a = none then H a else G a) ≠ none := g'
    split at g'
    · assumption
    · exact x.nw a g g'
  · show (if H0 a = none then H a else G a) = some u
    split
    · exact en.gh _ _ h
    · exact h
  · obtain ⟨v, hv, p, hs, rfl, h0, g0, hH, kv⟩ := en.ok i _ hi (by intro z; cases z)
    refine ⟨_, hv, p, hs, rfl, ?_, kv_mono (fun a u h => ?_) kv⟩
    · show (if H0 p = none then H p else G p) = some _
      rw [if_pos h0]
      exact hH
    · show (if H0 a = none then H a else G a) = some u
      split
      · exact en.gh _ _ h
      · exact h
section
variable {P : Program} {w : World} {K : PySem.W.Frag} {mg : Str → Option Value} {base : Heap}
theorem x_pair {X : Cx} {k : Nat} {M : List (Option Str)} {GL BL : List Str} {cs : List Cell} {pos p pos' p1 p2 p3 : Pos} {Po : Po} (nm : Nm X P w K mg base k M GL BL) {j : Nat} (C : Cal P w K mg base "pair_anew" j (spPair K)) (hj : j ≤ k) (hg : Has GL "pair_anew") (a : APr) {x y z : Str} {e : Expr} {i1 i2 i3 : Nat}
    (m1 : M[i1]? = some (some x)) (m2 : M[i2]? = some (some y)) (m3 : M[i3]? = some (some z)) (h12 : i1 ≠ i2) (c1 : cs[i1]? = some (.odi a.kn)) (c2 : cs[i2]? = some (.odi a.ka)) (c3 : cs[i3]? = some (.ldc (foundN a.F))) (he : XE X cs e (.dat (.int (a.free : Nat))))
    (kn : ∀ kn' ka' nx' ah', TellsN kn' nx' → TellsN ka' ah' → KeysN a.n kn' → KeysN a.n ka' → Flipped (bOf a.B) a.nx a.ah a.y a.DR nx' ah' → Po.nx ((cs.set i1 (.odi kn')).set i2 (.odi ka')))
    (s4 : starEach [.Name x p1, .Name y p2, .Name z p3, e] X.env = (false, eval (.Name x p1) X.env) :: starEach [.Name y p2, .Name z p3, e] X.env := by rfl) (s3 : starEach [.Name y p2, .Name z p3, e] X.env = (false, eval (.Name y p2) X.env) :: starEach [.Name z p3, e] X.env := by rfl) (s2 : starEach [.Name z p3, e] X.env = (false, eval (.Name z p3) X.env) :: starEach [e] X.env := by rfl) (s1 : starEach [e] X.env = (false, eval e X.env) :: starEach [] X.env := by rfl)
    (hpl : (backTo pos (starEach [.Name y p2, .Name z p3, e] X.env)).any (·.1) = false := by rfl) (hs : swapsWith (.Call (.Name "pair_anew" p) [.Name x p1, .Name y p2, .Name z p3, e] [] pos) none pos'.line X.env = pure false := by rfl) :
    XS X cs (.Expr (.Call (.Name "pair_anew" p) [.Name x p1, .Name y p2, .Name z p3, e] [] pos) pos') Po := .mk fun {G0 H0 G H σ} en D r => by
  obtain ⟨f, fd, ps, F, hm, hk, hb⟩ := C
  obtain ⟨rfl, rfl, rfl, rfl, rfl⟩ : X.prog = P ∧ X.w = w ∧ X.K = K ∧ X.mg = mg ∧ X.base = base := ⟨nm.hP, nm.hw, nm.hK, nm.hmg, nm.hbase⟩
  obtain ⟨v1, hv1, pn, hn, rfl, n0, ng, nH, nk⟩ := en.ok i1 _ c1 (by intro z; cases z)
  obtain ⟨v2, hv2, pa, ha, rfl, a0, ag, aH, ak⟩ := en.ok i2 _ c2 (by intro z; cases z)
  obtain ⟨v3, hv3, pf, hf, rfl, fG, fk⟩ := en.ok i3 _ c3 (by intro z; cases z)
  have npa : pn ≠ pa := fun z => en.ap i1 i2 _ _ pn h12 c1 c2 rfl rfl hv1 (by rw [hv2, z])
  have nfn : pf ≠ pn := fun z => by
    subst z
    rcases fG with fG | ⟨_, fG⟩ <;> rw [ng] at fG <;> cases fG
  have nfa : pf ≠ pa := fun z => by
    subst z
    rcases fG with fG | ⟨_, fG⟩ <;> rw [ag] at fG <;> cases fG
  refine ⟨_, ps_expr pe_v hs, _, pe_call F (nm.room.mono hj) (nm.gl _ hg.mem).1 hm hk hb .nil pass0 (pa_cons pe_v (pa_cons pe_v (pa_cons pe_v (pa_cons pe_v pa_nil s1) s2) s3) s4) (nm.gl _ hg.mem).2.1 s4 hpl, ?_⟩
  refine r_var nm m1 hv1 (r_var nm m2 hv2 (r_var nm m3 hv3 (he en fun v G' H' x rv => ?_)))
  cases rv
  refine ⟨a, pn, pa, pf, hn, ha, hf, rfl, npa, nfn, nfa, x.eh _ _ nH, x.eh _ _ aH, Evl.ex_rd (x.eg.trans x.gh) fG, kv_scal nk a.sn.fl, kv_scal ak a.sa.fl, kv_scal fk (foundN_flat a.F), fun hn' ha' kn' ka' nx' ah' k1 k2 t1 t2 e1 e2 Z => ?_⟩
  have en1 := (en.step x).mutD c1 hv1 (kv_scal (G' := G') k1 e1.fl)
  have c2' : (cs.set i1 (.odi kn'))[i2]? = some (.odi a.ka) := by rw [List.getElem?_set_ne h12]; exact c2
  have en2 := en1.mutD c2' hv2 (kv_scal (G' := G') k2 e2.fl)
  exact r.nx _ _ _ _ (kn _ _ _ _ t1 t2 e1 e2 Z) en2 x.eg
theorem ok_paired {f : Addr} {fd : FuncData} {k : Nat} (F : Fun K "paired" "paired" s_paired f fd) (hb : Bl mg) {j : Nat} (hj : j ≤ k) (CM : Cal P w K mg base "meant_for" j (cMeant K)) (CP : Cal P w K mg base "pair_anew" j (spPair K)) : FnOk P w K mg base CX0 (k + 1) f fd ["behind"] (spPaired K) := by
  refine F.ok sc_paired (fun vs H Q E h => ?_) (fun cdv A outer s H vs Q E hr h => ?_)
  · obtain ⟨a, G, _, hp, _⟩ := h
    rw [paired_len hp]
    rfl
  obtain ⟨nm, nd⟩ := nm_paired (P := P) (w := w) (K := K) (mg := mg) (base := base) (outer := outer) (H := H) (E := E) hb hr
  obtain ⟨⟨n, B, hB, hbn, hn⟩, G, gh, hp, q⟩ := h
  refine ⟨_, pss_v, ?_⟩
  have hlen : (listsD B).length = n := by unfold listsD; rw [List.length_map, hB]
  have en0 : Env K G H G H (L2.start N_paired vs) [.dat (.list (listsD B)), .un, .un, .un, .un, .un, .un] := by
    have z := env_start (N := N_paired) gh hp
    have lv : vs.length = 1 := paired_len hp
    rw [lv] at z
    exact z
  refine rs_cons (XS.raw (N := fun c => c = [.dat (.list (listsD B)), .odi [], .un, .un, .un, .un, .un]) (set nm nd xe_dnew (by walk_at "upd") rfl) en0 fun G1 H1 σ1 cs1 e1 en1 x1 => ?_)
  subst e1
  refine rs_cons (XS.raw (N := fun c => c = [.dat (.list (listsD B)), .odi [], .odi [], .un, .un, .un, .un]) (set nm nd xe_dnew (by walk_at "upd") rfl) en1 fun G2 H2 σ2 cs2 e2 en2 x2 => ?_)
  subst e2
  refine rs_cons (XS.raw (N := fun c => ∃ nx ah kn ka DL DR x y z, PairedOk n B nx ah kn ka ∧ Dead (bOf B) ah DL DR ∧ (∀ i < n, nx i = none → DL i) ∧ c = [.dat (.list (listsD B)), .odi kn, .odi ka, x, y, z, .un]) (for_ nm nd (ds := rangeD 0 ((n : Nat) : Int).toNat) (fun i c => ∃ nx ah kn ka DL DR x y z, PairedOk n B nx ah kn ka ∧ (∀ a b, nx a = some b → a < i) ∧ Dead (bOf B) ah DL DR ∧ (∀ a < i, nx a = none → DL a) ∧ c = [.dat (.list (listsD B)), .odi kn, .odi ka, x, y, z, .un]) (rg1 nm (by walk_at "has") (by walk_at "has") (XE.is (by walk_at "x") (by rw [hlen])) (by omega)) ?_ ?_ ?_) en2 ?_)
  · exact ⟨fun _ => none, fun _ => none, [], [], fun _ => False, fun _ => False, _, _, _, ⟨⟨fun _ _ h => (by cases h), fun _ _ h => (by cases h), fun _ _ h => (by cases h)⟩, fun _ _ h => (by cases h), tellsN_nil, tellsN_nil, keysN_nil, keysN_nil⟩, (fun _ _ h => by cases h), ⟨fun _ h => h.elim, fun _ h => h.elim⟩, (fun a h => absurd h (Nat.not_lt_zero a)), rfl⟩
  · rintro i d _ hd ⟨nx, ah, kn, ka, DL, DR, x, y, z, ok, hlt, D, hD, rfl⟩
    have hi : i < n := by
      have := (List.getElem?_eq_some_iff.mp hd).1
      rw [rangeD_len] at this
      omega
    obtain ⟨_, rfl⟩ := rangeD_inv hd
    rw [show (0 : Int) + (i : Nat) = ((i : Nat) : Int) by omega]
    refine gnm nm nd (by walk_at "upd") ?_
    have hny : nx i = none := by
      cases e : nx i with
      | none => rfl
      | some b => exact absurd (hlt _ _ e) (Nat.lt_irrefl _)
    refine xs_cons (setF nm nd (scP (by walk_at "fz") (cal nm CM hj (by walk_at "has") ⟨n, B, hB, hbn, ka, ah, ok.ta, fun a b h => ok.hx a b (ok.M.an a b h), [i], (fun x hx => by rw [List.mem_singleton.mp hx]; exact hi), (by show 1 ≤ n; omega), hn⟩ (by walk_at "x")) ?_) (by walk_at "upd") (by rintro _ ⟨_, _, rfl⟩ z; cases z) ?_)
    · rintro _ ⟨F, _, rfl⟩
      exact foundN_flat F
    rintro _ ⟨F, R, rfl⟩
    have R : Reach n (bOf B) ah (fun x => x ∈ [i]) F := R
    have R : Reach n (bOf B) ah (fun x => x = i) F := by
      have e : (fun x => x ∈ [i]) = (fun x => x = i) := by
        funext x
        simp
      rw [← e]
      exact R
    show ∃ cs', Upd _ _ _ (.dic (foundN F)) cs' ∧ _
    refine ⟨_, by walk_at "upd", ?_⟩
    have fl : F.length ≤ n := by
      have := Dj.nodup_len (m := List.range n) R.nd fun x hx => List.mem_range.mpr (R.lt x hx)
      unfold keys at this
      rw [List.length_map, List.length_range] at this
      exact this
    have kl : (keys F).length = F.length := by unfold keys; rw [List.length_map]
    have kD : keysD (foundN F) = (keys F).map fun o => .int (o : Nat) := by
      unfold keysD foundN keys
      rw [List.map_map, List.map_map]
      rfl
    refine xs_cons (setLcgK nm (N := N_paired) (sc := defScope s_paired) rfl rfl 6 (kvs := foundN F) (fun i => numsD (((keys F).take i).filter fun o => (ah o).isNone)) rfl (by rw [foundN_len]; omega) (show Lk _ [.dat (.list (listsD B)), .odi kn, .odi ka, .dat (.int (i : Nat)), .ldc (foundN F), z.lk, .un] from .dat (.odi (.odi (.dat (.dic (.any (.un .nil))))))) (by walk_at "sel") (by decide +kernel) (by walk_at "upd") (show (defScope s_paired).names.lookup ("free" : Str) = some NameKind.local by decide +kernel) (sw_true rfl rfl rfl (by decide +kernel)) ?_ ?_)
    · intro i' d hd
      rw [kD, List.getElem?_map] at hd
      obtain ⟨o, ho, rfl⟩ : ∃ o, (keys F)[i']? = some o ∧ PyData.int (o : Nat) = d := by
        cases e : (keys F)[i']? with
        | none => rw [e] at hd; cases hd
        | some o => rw [e] at hd; cases hd; exact ⟨o, rfl, rfl⟩
      have ac : ((keys F).take (i' + 1)).filter (fun o => (ah o).isNone) = ((keys F).take i').filter (fun o => (ah o).isNone) ++ if (ah o).isNone = true then [o] else [] := by
        rw [List.take_add_one, ho, List.filter_append]
        congr 1
        cases q : (ah o).isNone <;> simp [List.filter_cons, q]
      have lo : (lookD ka (.inl (o : Nat))).isSome = !(ah o).isNone := by
        rw [ok.ta o]
        cases ah o <;> rfl
      refine ⟨(ah o).isNone, fun B' => xts_one ?_, fun hk => ⟨.int (o : Nat), fun B' => ?_, ?_⟩, fun hk => ?_⟩
      · refine blkT nm N_paired (defScope s_paired) [none, none, some "ahead", none, none, none, some "other"] [] rfl rfl (by decide +kernel) fun nmb => ?_
        refine xt_frz (cs' := [.dat (.list (listsD B)), .dic kn, .dic ka, .dat (.int (i : Nat)), .ldc (foundN F), z.lk.fr, .dat (.int (o : Nat))]) (by walk_at "fz") (XT.is (xt_dnin nmb (kd := .int (o : Nat)) (kvs := ka) (by walk_at "x") (xe_ldc (by walk_at "x")) rfl) ?_)
        rw [lo, Bool.not_not]
      · refine blk nm N_paired (defScope s_paired) [none, none, none, none, none, none, some "other"] [] rfl rfl (by decide +kernel) fun nmb => ?_
        show XE _ [.dat (.list (listsD B)), .odi kn, .odi ka, .dat (.int (i : Nat)), .ldc (foundN F), z.lk, .dat (.int (o : Nat))] _ _
        walk_at "x"
      · show numsD _ = numsD _ ++ _
        rw [ac, if_pos hk, numsD_app]
        rfl
      · show numsD _ = numsD _
        rw [ac, hk, if_neg (by decide), List.append_nil]
    rw [foundN_len, ← kl, List.take_length]
    cases hf : (keys F).filter (fun o => (ah o).isNone) with
    | nil =>
      refine xs_cons (if_ (kk := false) (by walk_at "fz") (XT.is (xt_truthL (by walk_at "x")) rfl) (fun h => by cases h) fun _ => xs_nil (xs_nil ?_))
      have hno : ∀ o ∈ keys F, ah o ≠ none := fun o ho e => by
        have : o ∈ (keys F).filter (fun o => (ah o).isNone) := List.mem_filter.mpr ⟨ho, by rw [e]; rfl⟩
        rw [hf] at this
        cases this
      refine ⟨nx, ah, kn, ka, _, _, _, _, _, ok, (fun a b h => Nat.lt_succ_of_lt (hlt a b h)), R.fail D hno, fun a ha e => ?_, rfl⟩
      rcases Nat.lt_succ_iff_lt_or_eq.mp ha with ha | rfl
      · exact .inl (hD a ha e)
      · exact .inr (.inl rfl)
    | cons o rest =>
      have hm : o ∈ (keys F).filter (fun o => (ah o).isNone) := by rw [hf]; exact List.mem_cons_self
      obtain ⟨hm1, hm2⟩ := List.mem_filter.mp hm
      have hfo : ah o = none := Option.isNone_iff_eq_none.mp hm2
      obtain ⟨p, hp⟩ := List.mem_iff_getElem?.mp hm1
      have hp : ∃ x, F[p]? = some (o, x) := by
        unfold keys at hp
        rw [List.getElem?_map] at hp
        cases e : F[p]? with
        | none => rw [e] at hp; cases hp
        | some f => rw [e] at hp; cases hp; exact ⟨f.2, rfl⟩
      refine xs_cons (if_ (kk := true) (by walk_at "fz") (XT.is (xt_truthL (by walk_at "x")) rfl) (fun _ => ?_) fun h => by cases h)
      refine xs_cons (x_pair nm CP hj (by walk_at "has") ⟨n, B, nx, ah, ok.M, ok.hx, i, hi, hny, F, R, DL, DR, D, p, o, hp, hfo, hn, kn, ka, ok.tn, ok.ta, ok.sn, ok.sa⟩ (i1 := 1) (i2 := 2) (i3 := 4) rfl rfl rfl (by decide) rfl rfl rfl (show Fw.XE _ _ _ (.dat (.int (o : Nat))) from sc (by walk_at "fz") (xe_ix (d := .list (numsD (o :: rest))) (e := .int 0) (by walk_at "x") (by walk_at "x") (id_l (atI_nat' (n := 0) rfl rfl)))) fun kn' ka' nx' ah' t1 t2 s1 s2 Z => xs_nil (xs_nil ?_))
      have b1 : ∀ a b, nx' a = some b → a < i + 1 := fun a b h => by
        by_cases c : a = i
        · omega
        · cases e : nx a with
          | none => rw [(Z.m a c).mpr e] at h; cases h
          | some b' => exact Nat.lt_succ_of_lt (hlt a b' e)
      refine ⟨nx', ah', kn', ka', DL, DR, _, _, _, ⟨Z.mt, (fun a b h => by have := b1 a b h; omega), t1, t2, s1, s2⟩, b1, Z.dead D, fun a ha e => ?_, rfl⟩
      have c : a ≠ i := fun c => by
        subst c
        exact Z.ym e
      exact hD a (by omega) ((Z.m a c).mp e)
  · rintro _ ⟨nx, ah, kn, ka, DL, DR, x, y, z, ok, hlt, D, hD, rfl⟩
    exact ⟨nx, ah, kn, ka, DL, DR, x, y, z, ok, D, fun a ha => hD a (by rw [rangeD_len]; omega), rfl⟩
  · intro G3 H3 σ3 cs3 hc3 en3 x3
    obtain ⟨nx, ah, kn, ka, DL, DR, x, y, z, ok, D, hD, rfl⟩ := hc3
    obtain ⟨G4, x4, e4, fr⟩ := seal_odi en3
    obtain ⟨v1, hv1, f1⟩ := fr 1 kn rfl
    obtain ⟨v2, hv2, f2⟩ := fr 2 ka rfl
    refine rs_cons ⟨_, ps_ret pe_v, _, pe_tup (pa_cons pe_v (pa_cons pe_v pa_nil)), ?_⟩
    refine r_var nm (i := 1) rfl hv1 (r_var nm (i := 2) rfl hv2 ⟨Evl.sz_of (Nat.le_of_ble_eq_true rfl), fun T hT => ?_⟩)
    have xt := Ext.new (o := .tup [v1, v2]) x4.gh hT
    exact q _ _ _ nx ah kn ka DL DR ok D hD (x4.trans xt) ⟨T, v1, v2, rfl, upd_same, f1.mono xt.eg, f2.mono xt.eg⟩
end
end K8

set_option maxRecDepth 100000
set_option maxHeartbeats 4000000
namespace K8
open PySem PySem.Spec PyProof.Rows L2 Fw Bus
open Dj (Best dist)
local macro_rules | `(tactic| walk_at "sel") => `(tactic| repeat (first | with_reducible apply Sel.z | apply Sel.s))
local macro_rules | `(tactic| walk_at "upd") => `(tactic| repeat (first | with_reducible apply Upd.z | apply Upd.s))
local macro_rules | `(tactic| walk_at "has") => `(tactic| repeat (first | with_reducible apply Has.z | apply Has.s))
local macro_rules | `(tactic| walk_at "fz") => `(tactic| repeat (first | exact Fz.nil | apply Fz.un | apply Fz.dat | apply Fz.scr | apply Fz.rng | apply Fz.dic | apply Fz.ldc | apply Fz.own | apply Fz.odi | apply Fz.any))
local macro_rules | `(tactic| walk_at "bi") => `(tactic| first | with_reducible exact BI.len | with_reducible exact BI.max | with_reducible exact BI.min | with_reducible exact BI.all | with_reducible exact BI.any | with_reducible exact BI.sorted | with_reducible exact BI.sum | with_reducible exact BI.abs)
local macro_rules | `(tactic| walk_at "bt") => `(tactic| first | with_reducible exact BT.list | with_reducible exact BT.tuple | with_reducible exact BT.str | with_reducible exact BT.int | with_reducible exact BT.bool | with_reducible exact BT.dict)
local macro_rules | `(tactic| walk_at "bd") => `(tactic| first | exact bd_add | exact bd_sub | (apply bd_mod <;> try decide) | (apply bd_fdiv <;> try decide) | apply bd_adds | apply bd_muls | apply bd_mul | apply bd_cat)
local macro_rules | `(tactic| walk_at "cd") => `(tactic| first | exact cd_lt | exact cd_le | exact cd_gt | exact cd_ge | exact cd_eqi | exact cd_nei | exact cd_eqs | exact cd_nes | exact cd_inSign | apply cd_eqD (Nm.hu (by assumption)) | apply cd_neD (Nm.hu (by assumption)) | apply cd_inD (Nm.hu5 (by assumption)) | apply cd_notInD (Nm.hu5 (by assumption)))
local macro_rules | `(tactic| walk_at "id") => `(tactic| first | (apply id_l <;> try first | assumption | rfl) | (apply id_t <;> try first | assumption | rfl) | (apply id_s <;> try first | assumption | (show Str.length _ ≤ sizeLine; decide +kernel)))
local macro_rules | `(tactic| walk_at "cl") => `(tactic| first | exact cl_lenL | exact cl_lenT | apply cl_lenS | exact cl_list | exact cl_max2 (Nm.calm (by assumption)) | exact cl_all (Nm.calm (by assumption)))
local macro_rules | `(tactic| walk_at "x") => `(tactic| first
  | exact xe_int | exact xe_str | exact xe_bl | exact xe_non
  | (apply ve; · assumption
     · walk_at "sel")
  | (apply ve'; · assumption
     · walk_at "sel"
     all_goals (first | rfl | (intro z; cases z; done)))
  | (apply gle_int; · assumption
     · walk_at "has"
     · with_reducible assumption)
  | (apply gle_str; · assumption
     · walk_at "has"
     · with_reducible assumption)
  | (show Nm _ _ _ _ _ _ _ _ _ _; assumption)
  | (apply xe_bin <;> try walk_at "x") | walk_at "bd"
  | (apply xt_cmp <;> try walk_at "x") | (apply xe_cmp <;> try walk_at "x") | walk_at "cd"
  | (show behindInMarks _ _ = false; first | exact nomark _ | rfl)
  | (apply xt_not <;> try walk_at "x") | (apply xe_not <;> try walk_at "x")
  | (apply xe_unop <;> try walk_at "x") | exact ud_neg
  | (apply xt_pw; apply xw_and <;> try walk_at "x") | (apply xt_pw; apply xw_or <;> try walk_at "x")
  | (apply xw_and <;> try walk_at "x") | (apply xw_or <;> try walk_at "x") | (apply xw_and1 <;> try walk_at "x") | (apply xw_or1 <;> try walk_at "x")
  | (apply xe_and <;> try walk_at "x") | (apply xe_or <;> try walk_at "x") | (apply xe_one <;> try walk_at "x")
  | (apply cisi; · assumption
     · walk_at "bt"
     · walk_at "has"
     · walk_at "has"
     · walk_at "has"
     · walk_at "has"
     all_goals try walk_at "x")
  | (apply cbi; · assumption
     · walk_at "bi"
     · walk_at "has"
     · walk_at "has"
     all_goals try walk_at "x")
  | (apply cty; · assumption
     · walk_at "bt"
     · walk_at "has"
     · walk_at "has"
     all_goals walk_at "x")
  | (apply xe_fr (c := .own _)
     (apply cty; · assumption
      · walk_at "bt"
      · walk_at "has"
      · walk_at "has"
      all_goals walk_at "x"))
  | (apply cty; · assumption
     · walk_at "bt"
     · walk_at "has"
     · walk_at "has"
     all_goals try walk_at "x")
  | walk_at "cl"
  | exact xd_nil | (apply xd_cons <;> try walk_at "x") | exact xa_nil | (apply xa_c <;> try walk_at "x")
  | (apply xe_list <;> try walk_at "x") | (apply xe_tup <;> try walk_at "x")
  | (apply xe_ix <;> try walk_at "x") | walk_at "id"
  | (show PlainIx _; exact fun _ _ => rfl)
  | (apply xt_chainI op_le op_le <;> try walk_at "x") | (apply xt_chainI op_le op_lt <;> try walk_at "x") | (apply xe_chainI op_le op_le <;> try walk_at "x") | (apply xe_chainI op_le op_lt <;> try walk_at "x")
  | (apply xt_val <;> try walk_at "x")
  | (apply xe_fr (c := .own _) <;> try walk_at "x")
  | (show List.length _ ≤ 100000; exact Nat.le_of_ble_eq_true rfl)
  | (show lastMarks _ _ = false; with_unfolding_all rfl)
  | (show _ = _; rfl)
  | (intro _; walk_at "x"))
structure AFol where
  L : List Ride
  ts : List Trip
  t : Trip
  hL : ∀ r ∈ L, 1 ≤ r.2.2
  hl : L.length ≤ 200
  lt : ts.length ≤ 100
abbrev cFollowing (K : PySem.W.Frag) : Sp := Con K (fun a : AFol => [.dat (.list (a.L.map rideD)), .dat (.list (a.ts.map tripD)), .dat (tripD a.t)]) (fun a c => c = .own (numsD (folT a.L a.ts a.t)))
structure ABus2 where
  b : ABus
  l1 : b.rs.length ≤ 100
  l2 : b.ts.length ≤ 100
abbrev cFollowers (K : PySem.W.Frag) : Sp := Con K (fun a : ABus2 => a.b.cells) (fun a c => c = .own (listsD (folB (laid a.b.rs a.b.ts) a.b.ts)))
section
variable {P : Program} {w : World} {K : PySem.W.Frag} {mg : Str → Option Value} {base : Heap}
theorem ok_following {f : Addr} {fd : FuncData} {k : Nat} (F : Fun K "following" "following" s_following f fd) (hb : Bl mg) {j : Nat} (hj : j ≤ k) (CE : Cal P w K mg base "explored" j (cExplored K)) (CI : Cal P w K mg base "in_time" j (cInTime K)) : FnOk P w K mg base CX0 (k + 1) f fd ["laid", "trips", "trip"] (cFollowing K) := by
  refine fn_con F sc_following (fun _ => rfl) fun cdv A outer s H E hr a => ?_
  obtain ⟨nm, nd⟩ := nm_following (P := P) (w := w) (K := K) (mg := mg) (base := base) (outer := outer) (H := H) (E := E) hb hr
  obtain ⟨L, ts, t, hL, hl, lt⟩ := a
  show XSs _ [.dat (.list (L.map rideD)), .dat (.list (ts.map tripD)), .dat (tripD t), .un, .un, .un] _ { nx := fun _ => _, rt := fun c => c = .own (numsD (folT L ts t)) }
  refine xs_cons (setF nm nd (cal nm CE hj (by walk_at "has") ⟨L, t.2.2.1, by omega, fun r hr => by have := hL r hr; omega⟩ (xa_c (show Fw.XE _ _ _ (.dat (.list (L.map rideD))) from by walk_at "x") rfl (xa_c (xe_ix (d := tripD t) (by walk_at "x") (by walk_at "x") (by unfold tripD; walk_at "id")) rfl xa_nil))) (by walk_at "upd") (by rintro _ ⟨_, rfl, _⟩ z; cases z) ?_)
  rintro _ ⟨F, rfl, B⟩
  have B : Best L t.2.2.1 F := B
  show ∃ cs', Upd _ _ _ (.dic (foundD F)) cs' ∧ _
  refine ⟨_, by walk_at "upd", ?_⟩
  have en : (enumD (ts.map tripD)).length = ts.length := by rw [enumD_len, List.length_map]
  refine xs_cons (x_ret ((lcg2 nm (N := N_following) (sc := defScope s_following) (ds := enumD (ts.map tripD)) rfl rfl 4 5 (fun i => numsD ((List.range i).filter fun j => (ts[j]?).elim false fun u => inT L t u)) rfl (by omega) (enu nm (by walk_at "has") (by walk_at "has") (by walk_at "x")) (by decide +kernel) ?_).is (by rw [en]; rfl)) rfl)
  intro i d hd
  obtain ⟨e, he, rfl⟩ := enumD_inv hd
  obtain ⟨u, hu0, hu', rfl⟩ := map_get he
  have ac : (List.range (i + 1)).filter (fun j => (ts[j]?).elim false fun u => inT L t u) = (List.range i).filter (fun j => (ts[j]?).elim false fun u => inT L t u) ++ if inT L t u = true then [i] else [] := by
    rw [List.range_succ, List.filter_append]
    congr 1
    cases q : inT L t u <;> simp [List.filter_cons, hu0, q]
  refine ⟨_, _, rfl, inT L t u, fun B' => xts_one ?_, fun hk => ⟨.int (i : Nat), fun B' => ?_, ?_⟩, fun hk => ?_⟩
  · refine blkT nm N_following (defScope s_following) [none, none, some "trip", some "found", some "at", some "later"] ["in_time"] rfl rfl (by decide +kernel) fun nmb => ?_
    show XT _ [.dat (.list (L.map rideD)), .dat (.list (ts.map tripD)), .dat (tripD t), .dic (foundD F), .dat (.int (i : Nat)), .dat (tripD u)] _ _
    exact xt_val (calE nmb CI hj (by walk_at "has") ⟨L, t, u, F, B, hL⟩ (by walk_at "x"))
  · refine blk nm N_following (defScope s_following) [none, none, none, none, some "at", some "later"] [] rfl rfl (by decide +kernel) fun nmb => ?_
    show XE _ [.dat (.list (L.map rideD)), .dat (.list (ts.map tripD)), .dat (tripD t), .dic (foundD F), .dat (.int (i : Nat)), .dat (tripD u)] _ _
    walk_at "x"
  · rw [ac, if_pos hk, numsD_app]
    rfl
  · rw [ac, hk, if_neg (by decide), List.append_nil]
theorem ok_followers {f : Addr} {fd : FuncData} {k : Nat} (F : Fun K "followers" "followers" s_followers f fd) (hb : Bl mg) {j : Nat} (hj : j ≤ k) (CR : Cal P w K mg base "laid_roads" j (cRoads K)) (CF : Cal P w K mg base "following" j (cFollowing K)) : FnOk P w K mg base CX0 (k + 1) f fd ["rides", "trips"] (cFollowers K) := by
  refine fn_con F sc_followers (fun _ => rfl) fun cdv A outer s H E hr a => ?_
  obtain ⟨nm, nd⟩ := nm_followers (P := P) (w := w) (K := K) (mg := mg) (base := base) (outer := outer) (H := H) (E := E) hb hr
  obtain ⟨b, l1, l2⟩ := a
  have hlen := laid_len b.rs b.ts
  have hpos := laid_pos b.hr b.ht
  show XSs _ [.dat (.list (b.rs.map rideD)), .dat (.list (b.ts.map tripD)), .un, .un] _ { nx := fun _ => _, rt := fun c => c = .own (listsD (folB (laid b.rs b.ts) b.ts)) }
  refine xs_cons (set nm nd (c := .dat (.list ((laid b.rs b.ts).map rideD))) (xe_fr (c := .own _) (calE nm CR hj (by walk_at "has") b (by walk_at "x"))) (by walk_at "upd") ?_)
  refine xs_cons (x_ret ((lcg nm (N := N_followers) (sc := defScope s_followers) (ds := b.ts.map tripD) rfl rfl 3 (fun i => listsD ((b.ts.take i).map (folT (laid b.rs b.ts) b.ts))) rfl (by rw [List.length_map]; omega) (xi_list (by walk_at "x")) (by decide +kernel) ?_).is (by rw [List.length_map, List.take_length]; rfl)) rfl)
  intro i d hd
  obtain ⟨u, hu0, hu', rfl⟩ := map_get hd
  refine ⟨true, fun B' => xts_nil, fun _ => ⟨.list (numsD (folT (laid b.rs b.ts) b.ts u)), fun B' => ?_, ?_⟩, fun h => by cases h⟩
  · refine blk nm N_followers (defScope s_followers) [none, some "trips", some "laid", some "trip"] ["following"] rfl rfl (by decide +kernel) fun nmb => ?_
    show XE _ [.dat (.list (b.rs.map rideD)), .dat (.list (b.ts.map tripD)), .dat (.list ((laid b.rs b.ts).map rideD)), .dat (tripD u)] _ _
    exact xe_fr (c := .own _) (calE nmb CF hj (by walk_at "has") ⟨laid b.rs b.ts, b.ts, u, hpos, by omega, by omega⟩ (by walk_at "x"))
  · rw [List.take_add_one, hu0, List.map_append]
    unfold listsD
    rw [List.map_append]
    rfl
end
end K8

set_option maxRecDepth 100000
set_option maxHeartbeats 4000000
namespace K8
open PySem PySem.Spec PyProof.Rows L2 Fw Bus
open Dj (Best dist)
local macro_rules | `(tactic| walk_at "sel") => `(tactic| repeat (first | with_reducible apply Sel.z | apply Sel.s))
local macro_rules | `(tactic| walk_at "upd") => `(tactic| repeat (first | with_reducible apply Upd.z | apply Upd.s))
local macro_rules | `(tactic| walk_at "has") => `(tactic| repeat (first | with_reducible apply Has.z | apply Has.s))
local macro_rules | `(tactic| walk_at "fz") => `(tactic| repeat (first | exact Fz.nil | apply Fz.un | apply Fz.dat | apply Fz.scr | apply Fz.rng | apply Fz.dic | apply Fz.ldc | apply Fz.own | apply Fz.odi | apply Fz.any))
local macro_rules | `(tactic| walk_at "bi") => `(tactic| first | with_reducible exact BI.len | with_reducible exact BI.max | with_reducible exact BI.min | with_reducible exact BI.all | with_reducible exact BI.any | with_reducible exact BI.sorted | with_reducible exact BI.sum | with_reducible exact BI.abs)
local macro_rules | `(tactic| walk_at "bt") => `(tactic| first | with_reducible exact BT.list | with_reducible exact BT.tuple | with_reducible exact BT.str | with_reducible exact BT.int | with_reducible exact BT.bool | with_reducible exact BT.dict)
local macro_rules | `(tactic| walk_at "bd") => `(tactic| first | exact bd_add | exact bd_sub | (apply bd_mod <;> try decide) | (apply bd_fdiv <;> try decide) | apply bd_adds | apply bd_muls | apply bd_mul | apply bd_cat)
local macro_rules | `(tactic| walk_at "cd") => `(tactic| first | exact cd_lt | exact cd_le | exact cd_gt | exact cd_ge | exact cd_eqi | exact cd_nei | exact cd_eqs | exact cd_nes | exact cd_inSign | apply cd_eqD (Nm.hu (by assumption)) | apply cd_neD (Nm.hu (by assumption)) | apply cd_inD (Nm.hu5 (by assumption)) | apply cd_notInD (Nm.hu5 (by assumption)))
local macro_rules | `(tactic| walk_at "id") => `(tactic| first | (apply id_l <;> try first | assumption | rfl) | (apply id_t <;> try first | assumption | rfl) | (apply id_s <;> try first | assumption | (show Str.length _ ≤ sizeLine; decide +kernel)))
local macro_rules | `(tactic| walk_at "cl") => `(tactic| first | exact cl_lenL | exact cl_lenT | apply cl_lenS | exact cl_list | exact cl_max2 (Nm.calm (by assumption)) | exact cl_all (Nm.calm (by assumption)))
local macro_rules | `(tactic| walk_at "x") => `(tactic| first
  | exact xe_int | exact xe_str | exact xe_bl | exact xe_non
  | (apply ve; · assumption
     · walk_at "sel")
  | (apply ve'; · assumption
     · walk_at "sel"
     all_goals (first | rfl | (intro z; cases z; done)))
  | (apply gle_int; · assumption
     · walk_at "has"
     · with_reducible assumption)
  | (apply gle_str; · assumption
     · walk_at "has"
     · with_reducible assumption)
  | (show Nm _ _ _ _ _ _ _ _ _ _; assumption)
  | (apply xe_bin <;> try walk_at "x") | walk_at "bd"
  | (apply xt_cmp <;> try walk_at "x") | (apply xe_cmp <;> try walk_at "x") | walk_at "cd"
  | (show behindInMarks _ _ = false; first | exact nomark _ | rfl)
  | (apply xt_not <;> try walk_at "x") | (apply xe_not <;> try walk_at "x")
  | (apply xe_unop <;> try walk_at "x") | exact ud_neg
  | (apply xt_pw; apply xw_and <;> try walk_at "x") | (apply xt_pw; apply xw_or <;> try walk_at "x")
  | (apply xw_and <;> try walk_at "x") | (apply xw_or <;> try walk_at "x") | (apply xw_and1 <;> try walk_at "x") | (apply xw_or1 <;> try walk_at "x")
  | (apply xe_and <;> try walk_at "x") | (apply xe_or <;> try walk_at "x") | (apply xe_one <;> try walk_at "x")
  | (apply cisi; · assumption
     · walk_at "bt"
     · walk_at "has"
     · walk_at "has"
     · walk_at "has"
     · walk_at "has"
     all_goals try walk_at "x")
  | (apply cbi; · assumption
     · walk_at "bi"
     · walk_at "has"
     · walk_at "has"
     all_goals try walk_at "x")
  | (apply cty; · assumption
     · walk_at "bt"
     · walk_at "has"
     · walk_at "has"
     all_goals walk_at "x")
  | (apply xe_fr (c := .own _)
     (apply cty; · assumption
      · walk_at "bt"
      · walk_at "has"
      · walk_at "has"
      all_goals walk_at "x"))
  | (apply cty; · assumption
     · walk_at "bt"
     · walk_at "has"
     · walk_at "has"
     all_goals try walk_at "x")
  | walk_at "cl"
  | exact xd_nil | (apply xd_cons <;> try walk_at "x") | exact xa_nil | (apply xa_c <;> try walk_at "x")
  | (apply xe_list <;> try walk_at "x") | (apply xe_tup <;> try walk_at "x")
  | (apply xe_ix <;> try walk_at "x") | walk_at "id"
  | (show PlainIx _; exact fun _ _ => rfl)
  | (apply xt_chainI op_le op_le <;> try walk_at "x") | (apply xt_chainI op_le op_lt <;> try walk_at "x") | (apply xe_chainI op_le op_le <;> try walk_at "x") | (apply xe_chainI op_le op_lt <;> try walk_at "x")
  | (apply xt_val <;> try walk_at "x")
  | (apply xe_fr (c := .own _) <;> try walk_at "x")
  | (show List.length _ ≤ 100000; exact Nat.le_of_ble_eq_true rfl)
  | (show lastMarks _ _ = false; with_unfolding_all rfl)
  | (show _ = _; rfl)
  | (intro _; walk_at "x"))
open Kg (Mt Rch Reach keys Dead Flip Flipped put Chain rowOf rowsL startL apartL wants)
open Evl (Ex)
structure ARow where
  i : Nat
  nx : Kg.Fn
  kn : List (Key × PyData)
  tn : TellsN kn nx
  rk : Nat → Nat
  hr : ∀ i j, nx i = some j → rk j < rk i
  hi : rk i ≤ 200
abbrev cRowFrom (K : PySem.W.Frag) : Sp := Con K (fun a : ARow => [.dat (.int (a.i : Nat)), .dic a.kn]) (fun a c => ∃ r, Chain a.nx a.i r ∧ c = .own (numsD r))
structure ASt where
  n : Nat
  B : List (List Nat)
  hB : B.length = n
  hb : ∀ i, ∀ j ∈ bOf B i, j < n
  hn : n ≤ 100
  nx : Kg.Fn
  ah : Kg.Fn
  kn : List (Key × PyData)
  ka : List (Key × PyData)
  ok : PairedOk n B nx ah kn ka
abbrev cApart (K : PySem.W.Frag) : Sp := Con K (fun a : ASt => [.dat (.list (listsD a.B)), .dic a.kn, .dic a.ka]) (fun a c => ∃ F, Reach a.n (bOf a.B) a.ah (fun x => x < a.n ∧ a.nx x = none) F ∧ c = .own (numsD (apartL a.n a.nx F)))
section
variable {P : Program} {w : World} {K : PySem.W.Frag} {mg : Str → Option Value} {base : Heap}
theorem ok_row_from {f : Addr} {fd : FuncData} {k : Nat} (F : Fun K "row_from" "row_from" s_row_from f fd) (hb : Bl mg) : FnOk P w K mg base CX0 (k + 1) f fd ["number", "nexts"] (cRowFrom K) := by
  refine fn_con F sc_row_from (fun _ => rfl) fun cdv A outer s H E hr a => ?_
  obtain ⟨nm, nd⟩ := nm_row_from (P := P) (w := w) (K := K) (mg := mg) (base := base) (outer := outer) (H := H) (E := E) hb hr
  obtain ⟨i, nx, kn, tn, rk, hrk, hi⟩ := a
  show XSs _ [.dat (.int (i : Nat)), .dic kn, .un] _ { nx := fun _ => _, rt := fun c => ∃ r, Chain nx i r ∧ c = .own (numsD r) }
  refine xs_cons (set nm nd (c := .own (numsD [i])) (by walk_at "x") (by walk_at "upd") ?_)
  refine xs_cons (while_ nd (fun m c => ∃ r x, m = rk x ∧ (∀ t, Chain nx x t → Chain nx i (r ++ t)) ∧ r.length + rk x ≤ 200 ∧ c = [.dat (.int (i : Nat)), .dic kn, .own (numsD (r ++ [x]))]) (rk i) ⟨[], i, rfl, (fun t h => h), (by simpa using hi), rfl⟩ ?_)
  rintro m _ ⟨r, x, rfl, hc, hl, rfl⟩
  have tx := tn x
  have al : atI (numsD (r ++ [x])) (-1) = some (.int (x : Nat)) := by rw [numsD_snoc]; exact atI_last
  cases e : nx x with
  | none =>
    rw [e] at tx
    have tx : lookD kn (.inl (x : Nat)) = none := tx
    exact ⟨false, _, by walk_at "fz", XT.is (xt_din nm (kd := .int (x : Nat)) (kvs := kn) (xe_ix (d := .list (numsD (r ++ [x]))) (by walk_at "x") (by walk_at "x") (id_l al)) (xe_ldc (by walk_at "x")) rfl) (by rw [tx]; rfl), (fun h => by cases h), fun _ => xs_cons (retN nm (by walk_at "sel") ⟨_, hc [x] (.last e), rfl⟩)⟩
  | some y =>
    rw [e] at tx
    have tx : lookD kn (.inl (x : Nat)) = some (.int (y : Nat)) := tx
    have hlt := hrk x y e
    refine ⟨true, _, by walk_at "fz", XT.is (xt_din nm (kd := .int (x : Nat)) (kvs := kn) (xe_ix (d := .list (numsD (r ++ [x]))) (by walk_at "x") (by walk_at "x") (id_l al)) (xe_ldc (by walk_at "x")) rfl) (by rw [tx]; rfl), (fun _ => ?_), fun h => by cases h⟩
    refine xs_cons (app nm (d := .int (y : Nat)) (by walk_at "sel") (by walk_at "upd") (xe_dg nm (kvs := kn) (kd := .int (x : Nat)) (xe_ldc (by walk_at "x")) (sc (by walk_at "fz") (xe_ix (d := .list (numsD (r ++ [x]))) (by walk_at "x") (by walk_at "x") (id_l al))) rfl tx) (by rw [numsD_len, List.length_append, List.length_singleton]; omega) (xs_nil ⟨rk y, hlt, r ++ [x], y, rfl, (fun t h => ?_), ?_, by rw [numsD_snoc (r ++ [x])]⟩))
    · have := hc (x :: t) (.step e h)
      rw [List.append_assoc]
      exact this
    · rw [List.length_append, List.length_singleton]
      omega
theorem filt_step {p : Nat → Bool} {l : List Nat} {i o : Nat} (h : l[i]? = some o) : (l.take (i + 1)).filter p = (l.take i).filter p ++ if p o = true then [o] else [] := by
  rw [List.take_add_one, h, List.filter_append]
  congr 1
  cases q : p o <;> simp [List.filter_cons, q]
theorem ok_standing_apart {f : Addr} {fd : FuncData} {k : Nat} (F : Fun K "standing_apart" "standing_apart" s_standing_apart f fd) (hb : Bl mg) {j : Nat} (hj : j ≤ k) (CM : Cal P w K mg base "meant_for" j (cMeant K)) : FnOk P w K mg base CX0 (k + 1) f fd ["behind", "nexts", "ahead"] (cApart K) := by
  refine fn_con F sc_standing_apart (fun _ => rfl) fun cdv A outer s H E hr a => ?_
  obtain ⟨nm, nd⟩ := nm_standing_apart (P := P) (w := w) (K := K) (mg := mg) (base := base) (outer := outer) (H := H) (E := E) hb hr
  obtain ⟨n, B, hB, hbn, hn, nx, ah, kn, ka, ok⟩ := a
  have hlen : (listsD B).length = n := by unfold listsD; rw [List.length_map, hB]
  show XSs _ [.dat (.list (listsD B)), .dic kn, .dic ka, .un, .un, .un, .un] _ { nx := fun _ => _, rt := fun c => ∃ F, Reach n (bOf B) ah (fun x => x < n ∧ nx x = none) F ∧ c = .own (numsD (apartL n nx F)) }
  refine xs_cons (set nm nd (c := .rng n) (xe_rng nm (by walk_at "has") (by walk_at "has") (XE.is (by walk_at "x") (by rw [hlen]))) (by walk_at "upd") ?_)
  have rd : ∀ (i : Nat) (d : PyData), (rangeD 0 n)[i]? = some d → i < n ∧ d = .int (i : Nat) ∧ (List.range n)[i]? = some i := fun i d h => by
    obtain ⟨h1, rfl⟩ := rangeD_inv h
    exact ⟨h1, by rw [Int.zero_add], by rw [List.getElem?_range h1]⟩
  have lk : ∀ i, (lookD kn (.inl (i : Nat))).isSome = !(nx i).isNone := fun i => by
    rw [ok.tn i]
    cases nx i <;> rfl
  refine xs_cons (setF nm nd (cal nm CM hj (by walk_at "has") ⟨n, B, hB, hbn, ka, ah, ok.ta, fun a b h => ok.hx a b (ok.M.an a b h), (List.range n).filter fun i => (nx i).isNone, (fun x hx => List.mem_range.mp (List.mem_filter.mp hx).1), (by have := List.length_filter_le (fun i => (nx i).isNone) (List.range n); rw [List.length_range] at this; exact this), hn⟩ (xa_c (by walk_at "x") rfl (xa_c (by walk_at "x") rfl (xa_c (xe_fr (c := .own _) ((lcg nm (N := N_standing_apart) (sc := defScope s_standing_apart) (ds := rangeD 0 n) rfl rfl 6 (fun i => numsD (((List.range n).take i).filter fun i => (nx i).isNone)) rfl (by rw [rangeD_len]; omega) (xi_rng (by omega) (by walk_at "x")) (by decide +kernel) ?_).is (by rw [rangeD_len, List.take_of_length_le (by rw [List.length_range]; omega)]))) rfl xa_nil)))) (by walk_at "upd") (by rintro _ ⟨_, _, rfl⟩ z; cases z) ?_)
  · intro i d hd
    obtain ⟨hi, rfl, hri⟩ := rd i d hd
    refine ⟨(nx i).isNone, fun B' => xts_one ?_, fun hk => ⟨.int (i : Nat), fun B' => ?_, ?_⟩, fun hk => ?_⟩
    · refine blkT nm N_standing_apart (defScope s_standing_apart) [none, some "nexts", none, none, none, none, some "number"] [] rfl rfl (by decide +kernel) fun nmb => ?_
      show XT _ [.dat (.list (listsD B)), .dic kn, .dic ka, .rng n, .un, .un, .dat (.int (i : Nat))] _ _
      exact XT.is (xt_dnin nmb (kd := .int (i : Nat)) (kvs := kn) (by walk_at "x") (xe_ldc (by walk_at "x")) rfl) (by rw [lk, Bool.not_not])
    · refine blk nm N_standing_apart (defScope s_standing_apart) [none, none, none, none, none, none, some "number"] [] rfl rfl (by decide +kernel) fun nmb => ?_
      show XE _ [.dat (.list (listsD B)), .dic kn, .dic ka, .rng n, .un, .un, .dat (.int (i : Nat))] _ _
      walk_at "x"
    · show numsD _ = numsD _ ++ _
      rw [filt_step hri, if_pos hk, numsD_app]
      rfl
    · show numsD _ = numsD _
      rw [filt_step hri, hk, if_neg (by decide), List.append_nil]
  rintro _ ⟨F, R, rfl⟩
  have R : Reach n (bOf B) ah (fun x => x ∈ (List.range n).filter fun i => (nx i).isNone) F := R
  have R : Reach n (bOf B) ah (fun x => x < n ∧ nx x = none) F := by
    have e : (fun x => x ∈ (List.range n).filter fun i => (nx i).isNone) = (fun x => x < n ∧ nx x = none) := by
      funext x
      simp
    rw [← e]
    exact R
  show ∃ cs', Upd _ _ _ (.dic (foundN F)) cs' ∧ _
  refine ⟨_, by walk_at "upd", ?_⟩
  have lf : ∀ o, (lookD (foundN F) (.inl (o : Nat))).isSome = decide (o ∈ keys F) := fun o => by
    rcases foundN_look R.nd o with ⟨z, h1, h2, l⟩ | ⟨h1, l⟩
    · rw [l, decide_eq_true h2]
      rfl
    · rw [l, decide_eq_false h1]
      rfl
  refine xs_cons (setLcg nm nd (N := N_standing_apart) (sc := defScope s_standing_apart) rfl rfl 6 (ds := rangeD 0 n) (fun i => numsD (((List.range n).take i).filter fun i => (nx i).isNone || ((nx i).any fun j => decide (j ∈ keys F)))) rfl (by rw [rangeD_len]; omega) (xi_rng (by omega) (by walk_at "x")) (by decide +kernel) (by walk_at "upd") (show (defScope s_standing_apart).names.lookup ("wanting" : Str) = some NameKind.local by decide +kernel) (sw_true rfl rfl rfl (by decide +kernel)) ?_ ?_)
  · intro i d hd
    obtain ⟨hi, rfl, hri⟩ := rd i d hd
    refine ⟨(nx i).isNone || ((nx i).any fun j => decide (j ∈ keys F)), fun B' => xts_one ?_, fun hk => ⟨.int (i : Nat), fun B' => ?_, ?_⟩, fun hk => ?_⟩
    · refine blkT nm N_standing_apart (defScope s_standing_apart) [none, some "nexts", none, none, some "found", none, some "number"] [] rfl rfl (by decide +kernel) fun nmb => ?_
      show XT _ [.dat (.list (listsD B)), .dic kn, .dic ka, .rng n, .dic (foundN F), .un, .dat (.int (i : Nat))] _ _
      refine xt_pw (xw_or (XT.is (xt_dnin nmb (kd := .int (i : Nat)) (kvs := kn) (by walk_at "x") (xe_ldc (by walk_at "x")) rfl) (by rw [lk, Bool.not_not])) fun hs => xw_or1 ?_)
      cases e : nx i with
      | none => rw [e] at hs; cases hs
      | some y =>
        have tx := ok.tn i
        rw [e] at tx
        exact XT.is (xt_din nmb (kd := .int (y : Nat)) (kvs := foundN F) (xe_dg nmb (kvs := kn) (kd := .int (i : Nat)) (xe_ldc (by walk_at "x")) (by walk_at "x") rfl tx) (xe_ldc (by walk_at "x")) rfl) (by rw [lf]; rfl)
    · refine blk nm N_standing_apart (defScope s_standing_apart) [none, none, none, none, none, none, some "number"] [] rfl rfl (by decide +kernel) fun nmb => ?_
      show XE _ [.dat (.list (listsD B)), .dic kn, .dic ka, .rng n, .dic (foundN F), .un, .dat (.int (i : Nat))] _ _
      walk_at "x"
    · show numsD _ = numsD _ ++ _
      rw [filt_step hri, if_pos hk, numsD_app]
      rfl
    · show numsD _ = numsD _
      rw [filt_step hri, hk, if_neg (by decide), List.append_nil]
  have ew : (List.range n).take (rangeD 0 n).length = List.range n := List.take_of_length_le (by rw [rangeD_len, List.length_range]; omega)
  rw [ew]
  show XSs _ [.dat (.list (listsD B)), .dic kn, .dic ka, .rng n, .dic (foundN F), .own (numsD (wants n nx F)), .un] _ _
  refine xs_seal nm (x := "wanting") (by walk_at "sel") (by walk_at "upd") ?_
  have wl : (wants n nx F).length ≤ n := by
    have := List.length_filter_le (fun i => (nx i).isNone || ((nx i).any fun j => decide (j ∈ keys F))) (List.range n)
    rw [List.length_range] at this
    exact this
  refine xs_cons (x_ret ((lcg nm (N := N_standing_apart) (sc := defScope s_standing_apart) (ds := numsD (wants n nx F)) rfl rfl 6 (fun i => numsD (((wants n nx F).take i).filter fun i => !decide (i ∈ keys F))) rfl (by rw [numsD_len]; omega) (xi_list (by walk_at "x")) (by decide +kernel) ?_).is (b := .own (numsD (apartL n nx F))) (by rw [numsD_len, List.take_length]; rfl)) ⟨F, R, rfl⟩)
  intro i d hd
  obtain ⟨o, ho, rfl⟩ := numsD_inv hd
  refine ⟨!decide (o ∈ keys F), fun B' => xts_one ?_, fun hk => ⟨.int (o : Nat), fun B' => ?_, ?_⟩, fun hk => ?_⟩
  · refine blkT nm N_standing_apart (defScope s_standing_apart) [none, none, none, none, some "found", none, some "number"] [] rfl rfl (by decide +kernel) fun nmb => ?_
    show XT _ [.dat (.list (listsD B)), .dic kn, .dic ka, .rng n, .dic (foundN F), .dat (.list (numsD (wants n nx F))), .dat (.int (o : Nat))] _ _
    exact XT.is (xt_dnin nmb (kd := .int (o : Nat)) (kvs := foundN F) (by walk_at "x") (xe_ldc (by walk_at "x")) rfl) (by rw [lf])
  · refine blk nm N_standing_apart (defScope s_standing_apart) [none, none, none, none, none, none, some "number"] [] rfl rfl (by decide +kernel) fun nmb => ?_
    show XE _ [.dat (.list (listsD B)), .dic kn, .dic ka, .rng n, .dic (foundN F), .dat (.list (numsD (wants n nx F))), .dat (.int (o : Nat))] _ _
    walk_at "x"
  · show numsD _ = numsD _ ++ _
    rw [filt_step ho, if_pos hk, numsD_app]
    rfl
  · show numsD _ = numsD _
    rw [filt_step ho, hk, if_neg (by decide), List.append_nil]
end
end K8

set_option maxRecDepth 100000
set_option maxHeartbeats 4000000
namespace K8
open PySem PySem.Spec PyProof.Rows L2 Fw Bus
open Dj (Best dist)
local macro_rules | `(tactic| walk_at "sel") => `(tactic| repeat (first | with_reducible apply Sel.z | apply Sel.s))
local macro_rules | `(tactic| walk_at "upd") => `(tactic| repeat (first | with_reducible apply Upd.z | apply Upd.s))
local macro_rules | `(tactic| walk_at "has") => `(tactic| repeat (first | with_reducible apply Has.z | apply Has.s))
local macro_rules | `(tactic| walk_at "fz") => `(tactic| repeat (first | exact Fz.nil | apply Fz.un | apply Fz.dat | apply Fz.scr | apply Fz.rng | apply Fz.dic | apply Fz.ldc | apply Fz.own | apply Fz.odi | apply Fz.any))
local macro_rules | `(tactic| walk_at "bi") => `(tactic| first | with_reducible exact BI.len | with_reducible exact BI.max | with_reducible exact BI.min | with_reducible exact BI.all | with_reducible exact BI.any | with_reducible exact BI.sorted | with_reducible exact BI.sum | with_reducible exact BI.abs)
local macro_rules | `(tactic| walk_at "bt") => `(tactic| first | with_reducible exact BT.list | with_reducible exact BT.tuple | with_reducible exact BT.str | with_reducible exact BT.int | with_reducible exact BT.bool | with_reducible exact BT.dict)
local macro_rules | `(tactic| walk_at "bd") => `(tactic| first | exact bd_add | exact bd_sub | (apply bd_mod <;> try decide) | (apply bd_fdiv <;> try decide) | apply bd_adds | apply bd_muls | apply bd_mul | apply bd_cat)
local macro_rules | `(tactic| walk_at "cd") => `(tactic| first | exact cd_lt | exact cd_le | exact cd_gt | exact cd_ge | exact cd_eqi | exact cd_nei | exact cd_eqs | exact cd_nes | exact cd_inSign | apply cd_eqD (Nm.hu (by assumption)) | apply cd_neD (Nm.hu (by assumption)) | apply cd_inD (Nm.hu5 (by assumption)) | apply cd_notInD (Nm.hu5 (by assumption)))
local macro_rules | `(tactic| walk_at "id") => `(tactic| first | (apply id_l <;> try first | assumption | rfl) | (apply id_t <;> try first | assumption | rfl) | (apply id_s <;> try first | assumption | (show Str.length _ ≤ sizeLine; decide +kernel)))
local macro_rules | `(tactic| walk_at "cl") => `(tactic| first | exact cl_lenL | exact cl_lenT | apply cl_lenS | exact cl_list | exact cl_max2 (Nm.calm (by assumption)) | exact cl_all (Nm.calm (by assumption)))
local macro_rules | `(tactic| walk_at "x") => `(tactic| first
  | exact xe_int | exact xe_str | exact xe_bl | exact xe_non
  | (apply ve; · assumption
     · walk_at "sel")
  | (apply ve'; · assumption
     · walk_at "sel"
     all_goals (first | rfl | (intro z; cases z; done)))
  | (apply gle_int; · assumption
     · walk_at "has"
     · with_reducible assumption)
  | (apply gle_str; · assumption
     · walk_at "has"
     · with_reducible assumption)
  | (show Nm _ _ _ _ _ _ _ _ _ _; assumption)
  | (apply xe_bin <;> try walk_at "x") | walk_at "bd"
  | (apply xt_cmp <;> try walk_at "x") | (apply xe_cmp <;> try walk_at "x") | walk_at "cd"
  | (show behindInMarks _ _ = false; first | exact nomark _ | rfl)
  | (apply xt_not <;> try walk_at "x") | (apply xe_not <;> try walk_at "x")
  | (apply xe_unop <;> try walk_at "x") | exact ud_neg
  | (apply xt_pw; apply xw_and <;> try walk_at "x") | (apply xt_pw; apply xw_or <;> try walk_at "x")
  | (apply xw_and <;> try walk_at "x") | (apply xw_or <;> try walk_at "x") | (apply xw_and1 <;> try walk_at "x") | (apply xw_or1 <;> try walk_at "x")
  | (apply xe_and <;> try walk_at "x") | (apply xe_or <;> try walk_at "x") | (apply xe_one <;> try walk_at "x")
  | (apply cisi; · assumption
     · walk_at "bt"
     · walk_at "has"
     · walk_at "has"
     · walk_at "has"
     · walk_at "has"
     all_goals try walk_at "x")
  | (apply cbi; · assumption
     · walk_at "bi"
     · walk_at "has"
     · walk_at "has"
     all_goals try walk_at "x")
  | (apply cty; · assumption
     · walk_at "bt"
     · walk_at "has"
     · walk_at "has"
     all_goals walk_at "x")
  | (apply xe_fr (c := .own _)
     (apply cty; · assumption
      · walk_at "bt"
      · walk_at "has"
      · walk_at "has"
      all_goals walk_at "x"))
  | (apply cty; · assumption
     · walk_at "bt"
     · walk_at "has"
     · walk_at "has"
     all_goals try walk_at "x")
  | walk_at "cl"
  | exact xd_nil | (apply xd_cons <;> try walk_at "x") | exact xa_nil | (apply xa_c <;> try walk_at "x")
  | (apply xe_list <;> try walk_at "x") | (apply xe_tup <;> try walk_at "x")
  | (apply xe_ix <;> try walk_at "x") | walk_at "id"
  | (show PlainIx _; exact fun _ _ => rfl)
  | (apply xt_chainI op_le op_le <;> try walk_at "x") | (apply xt_chainI op_le op_lt <;> try walk_at "x") | (apply xe_chainI op_le op_le <;> try walk_at "x") | (apply xe_chainI op_le op_lt <;> try walk_at "x")
  | (apply xt_val <;> try walk_at "x")
  | (apply xe_fr (c := .own _) <;> try walk_at "x")
  | (show List.length _ ≤ 100000; exact Nat.le_of_ble_eq_true rfl)
  | (show lastMarks _ _ = false; with_unfolding_all rfl)
  | (show _ = _; rfl)
  | (intro _; walk_at "x"))
open Kg (Mt Rch Reach keys Dead Flip Flipped put Chain rowOf rowsL startL apartL wants)
/-- rows and numbers apart, as a plan tells them -/
structure PlanOk (L : List Ride) (ts : List Trip) (rows : List (List Nat)) (apart : List Nat) : Prop where
  perm : rows.flatten.Perm (List.range ts.length)
  ne : ∀ r ∈ rows, r ≠ []
  heads : (rows.map fun r => r.headD 0).Pairwise (· < ·)
  adj : ∀ r ∈ rows, ∀ (k : Nat) x y, r[k]? = some x → r[k + 1]? = some y → canD L ts x y = true
  len : apart.length = rows.length
  asc : apart.Pairwise (· < ·)
  lt : ∀ i ∈ apart, i < ts.length
  anti : ∀ i ∈ apart, ∀ j ∈ apart, canD L ts i j = false
  rl : ∀ r ∈ rows, r.length ≤ ts.length
theorem plan_ok {rs : List Ride} {ts : List Trip} (hr : ∀ r ∈ rs, OkR r) (ht : ∀ t ∈ ts, OkT t) {nx ah : Kg.Fn} {DL DR : Nat → Prop} {F : List Kg.Fd} (M : Mt (bOf (folB (laid rs ts) ts)) nx ah) (hx : ∀ i j, nx i = some j → i < ts.length) (D : Dead (bOf (folB (laid rs ts) ts)) ah DL DR) (hD : ∀ i < ts.length, nx i = none → DL i)
    (R : Reach ts.length (bOf (folB (laid rs ts) ts)) ah (fun x => x < ts.length ∧ nx x = none) F) : PlanOk (laid rs ts) ts (rowsL ts.length nx ah) (apartL ts.length nx F) := by
  have hpos := laid_pos hr ht
  have ed : ∀ i j, nx i = some j → canD (laid rs ts) ts i j = true := fun i j h => mem_fol.mp (M.ed i j h)
  have hm : ∀ o ∈ keys F, ah o ≠ none := fun o ho => by
    unfold keys at ho
    obtain ⟨f, hf, rfl⟩ := List.mem_map.mp ho
    obtain ⟨p, hp⟩ := List.mem_iff_getElem?.mp hf
    obtain ⟨l, e, _⟩ := D.back _ (R.dead D (fun x h => hD x h.1 h.2) p f.1 f.2 hp).1
    rw [e]
    exact fun z => by cases z
  obtain ⟨k1, k2, k3⟩ := Kg.koenig M (fun i j _ h => fol_lt h) hx (fun i j l h1 h2 => mem_fol.mpr (canD_trans hr ht (mem_fol.mp h1) (mem_fol.mp h2))) R hm
  have perm := Kg.rows_perm (n := ts.length) M (fun i j _ h => fol_lt h) (rkF ts) (fun i j h => (rk_step hpos ht (ed i j h)).1) (rkB ts) (fun i j h => (rk_step hpos ht (ed i j h)).2) hx
  have ch : ∀ i, Chain nx i (rowOf nx i) := fun i => by
    obtain ⟨r, h⟩ := Kg.chain_ex (rkF ts) (fun i j h => (rk_step hpos ht (ed i j h)).1) _ i (Nat.le_refl _)
    rw [h.row]
    exact h
  have hd : ∀ i, ∃ t, rowOf nx i = i :: t := fun i => (ch i).head
  have srt : ∀ (p : Nat → Bool), ((List.range ts.length).filter p).Pairwise (· < ·) := fun p => List.Pairwise.filter p List.pairwise_lt_range
  refine ⟨perm, fun r h => ?_, ?_, fun r h k x y h1 h2 => ?_, ?_, ?_, k2, fun i hi j hj => ?_, fun r h => ?_⟩
  · obtain ⟨i, _, rfl⟩ := List.mem_map.mp h
    obtain ⟨t, e⟩ := hd i
    rw [e]
    exact fun z => by cases z
  · have e : ((rowsL ts.length nx ah).map fun r => r.headD 0) = startL ts.length ah := by
      unfold rowsL
      rw [List.map_map]
      conv => rhs; rw [← List.map_id (startL ts.length ah)]
      refine List.map_congr_left fun i _ => ?_
      obtain ⟨t, e⟩ := hd i
      show (rowOf nx i).headD 0 = i
      rw [e]
      rfl
    rw [e]
    exact srt _
  · obtain ⟨i, _, rfl⟩ := List.mem_map.mp h
    exact ed _ _ ((ch i).adj k x y h1 h2)
  · unfold rowsL
    rw [List.length_map]
    exact k1
  · exact List.Pairwise.filter _ (srt _)
  · cases e : canD (laid rs ts) ts i j with
    | false => rfl
    | true => exact absurd (mem_fol.mpr e) (k3 i hi j hj)
  · have l1 := perm.length_eq
    rw [List.length_range] at l1
    rw [← l1]
    have : ∀ (R : List (List Nat)), r ∈ R → r.length ≤ R.flatten.length := fun R => by
      induction R with
      | nil => intro h; cases h
      | cons a R ih =>
        intro h
        rw [List.flatten_cons, List.length_append]
        rcases List.mem_cons.mp h with rfl | h
        · omega
        · have := ih h
          omega
    exact this _ h
end K8

set_option maxRecDepth 100000
set_option maxHeartbeats 4000000
namespace K8
open PySem PySem.Spec PyProof.Rows L2 Fw Bus
open Dj (Best dist)
local macro_rules | `(tactic| walk_at "sel") => `(tactic| repeat (first | with_reducible apply Sel.z | apply Sel.s))
local macro_rules | `(tactic| walk_at "upd") => `(tactic| repeat (first | with_reducible apply Upd.z | apply Upd.s))
local macro_rules | `(tactic| walk_at "has") => `(tactic| repeat (first | with_reducible apply Has.z | apply Has.s))
local macro_rules | `(tactic| walk_at "fz") => `(tactic| repeat (first | exact Fz.nil | apply Fz.un | apply Fz.dat | apply Fz.scr | apply Fz.rng | apply Fz.dic | apply Fz.ldc | apply Fz.own | apply Fz.odi | apply Fz.any))
local macro_rules | `(tactic| walk_at "bi") => `(tactic| first | with_reducible exact BI.len | with_reducible exact BI.max | with_reducible exact BI.min | with_reducible exact BI.all | with_reducible exact BI.any | with_reducible exact BI.sorted | with_reducible exact BI.sum | with_reducible exact BI.abs)
local macro_rules | `(tactic| walk_at "bt") => `(tactic| first | with_reducible exact BT.list | with_reducible exact BT.tuple | with_reducible exact BT.str | with_reducible exact BT.int | with_reducible exact BT.bool | with_reducible exact BT.dict)
local macro_rules | `(tactic| walk_at "bd") => `(tactic| first | exact bd_add | exact bd_sub | (apply bd_mod <;> try decide) | (apply bd_fdiv <;> try decide) | apply bd_adds | apply bd_muls | apply bd_mul | apply bd_cat)
local macro_rules | `(tactic| walk_at "cd") => `(tactic| first | exact cd_lt | exact cd_le | exact cd_gt | exact cd_ge | exact cd_eqi | exact cd_nei | exact cd_eqs | exact cd_nes | exact cd_inSign | apply cd_eqD (Nm.hu (by assumption)) | apply cd_neD (Nm.hu (by assumption)) | apply cd_inD (Nm.hu5 (by assumption)) | apply cd_notInD (Nm.hu5 (by assumption)))
local macro_rules | `(tactic| walk_at "id") => `(tactic| first | (apply id_l <;> try first | assumption | rfl) | (apply id_t <;> try first | assumption | rfl) | (apply id_s <;> try first | assumption | (show Str.length _ ≤ sizeLine; decide +kernel)))
local macro_rules | `(tactic| walk_at "cl") => `(tactic| first | exact cl_lenL | exact cl_lenT | apply cl_lenS | exact cl_list | exact cl_max2 (Nm.calm (by assumption)) | exact cl_all (Nm.calm (by assumption)))
local macro_rules | `(tactic| walk_at "x") => `(tactic| first
  | exact xe_int | exact xe_str | exact xe_bl | exact xe_non
  | (apply ve; · assumption
     · walk_at "sel")
  | (apply ve'; · assumption
     · walk_at "sel"
     all_goals (first | rfl | (intro z; cases z; done)))
  | (apply gle_int; · assumption
     · walk_at "has"
     · with_reducible assumption)
  | (apply gle_str; · assumption
     · walk_at "has"
     · with_reducible assumption)
  | (show Nm _ _ _ _ _ _ _ _ _ _; assumption)
  | (apply xe_bin <;> try walk_at "x") | walk_at "bd"
  | (apply xt_cmp <;> try walk_at "x") | (apply xe_cmp <;> try walk_at "x") | walk_at "cd"
  | (show behindInMarks _ _ = false; first | exact nomark _ | rfl)
  | (apply xt_not <;> try walk_at "x") | (apply xe_not <;> try walk_at "x")
  | (apply xe_unop <;> try walk_at "x") | exact ud_neg
  | (apply xt_pw; apply xw_and <;> try walk_at "x") | (apply xt_pw; apply xw_or <;> try walk_at "x")
  | (apply xw_and <;> try walk_at "x") | (apply xw_or <;> try walk_at "x") | (apply xw_and1 <;> try walk_at "x") | (apply xw_or1 <;> try walk_at "x")
  | (apply xe_and <;> try walk_at "x") | (apply xe_or <;> try walk_at "x") | (apply xe_one <;> try walk_at "x")
  | (apply cisi; · assumption
     · walk_at "bt"
     · walk_at "has"
     · walk_at "has"
     · walk_at "has"
     · walk_at "has"
     all_goals try walk_at "x")
  | (apply cbi; · assumption
     · walk_at "bi"
     · walk_at "has"
     · walk_at "has"
     all_goals try walk_at "x")
  | (apply cty; · assumption
     · walk_at "bt"
     · walk_at "has"
     · walk_at "has"
     all_goals walk_at "x")
  | (apply xe_fr (c := .own _)
     (apply cty; · assumption
      · walk_at "bt"
      · walk_at "has"
      · walk_at "has"
      all_goals walk_at "x"))
  | (apply cty; · assumption
     · walk_at "bt"
     · walk_at "has"
     · walk_at "has"
     all_goals try walk_at "x")
  | walk_at "cl"
  | exact xd_nil | (apply xd_cons <;> try walk_at "x") | exact xa_nil | (apply xa_c <;> try walk_at "x")
  | (apply xe_list <;> try walk_at "x") | (apply xe_tup <;> try walk_at "x")
  | (apply xe_ix <;> try walk_at "x") | walk_at "id"
  | (show PlainIx _; exact fun _ _ => rfl)
  | (apply xt_chainI op_le op_le <;> try walk_at "x") | (apply xt_chainI op_le op_lt <;> try walk_at "x") | (apply xe_chainI op_le op_le <;> try walk_at "x") | (apply xe_chainI op_le op_lt <;> try walk_at "x")
  | (apply xt_val <;> try walk_at "x")
  | (apply xe_fr (c := .own _) <;> try walk_at "x")
  | (show List.length _ ≤ 100000; exact Nat.le_of_ble_eq_true rfl)
  | (show lastMarks _ _ = false; with_unfolding_all rfl)
  | (show _ = _; rfl)
  | (intro _; walk_at "x"))
open Kg (Mt Rch Reach keys Dead Flip Flipped put Chain rowOf rowsL startL apartL wants)
open Evl (Ex)
/-- without the lists that begin with a number: none that a plan makes stands among them -/
def noInts (G : Hp) : Hp := fun a => match G a with
  | some (.lst (.int _ :: _)) => none
  | o => o
theorem noInts_ex (G : Hp) : Ex (noInts G) G := fun a u h => by
  unfold noInts at h
  split at h
  · cases h
  · exact h
theorem noInts_ne {G : Hp} {a : Addr} {i : Int} {t : List V} : noInts G a ≠ some (.lst (.int i :: t)) := fun h => by
  unfold noInts at h
  split at h
  · cases h
  · rename_i hn
    exact hn _ _ h
theorem noInts_tup {G : Hp} {a : Addr} {xs : List V} (h : G a = some (.tup xs)) : noInts G a = some (.tup xs) := by
  unfold noInts
  rw [h]
theorem noInts_lst {G : Hp} {a : Addr} {xs : List V} (h : G a = some (.lst xs)) (n : ∀ i t, xs ≠ .int i :: t) : noInts G a = some (.lst xs) := by
  unfold noInts
  rw [h]
  split
  · rename_i i t e
    cases e
    exact absurd rfl (n i t)
  · rfl
theorem dpa_scal {G G' : Hp} : ∀ {es : List PyData} {vs : List V}, DtA G vs es → (∀ e ∈ es, scalD e = true) → DtA G' vs es
  | [], _, h, _ => by cases h; exact .nil
  | e :: es, _, h, s => by
    cases h with
    | cons h1 h2 => exact .cons (dt_scal h1 (s e List.mem_cons_self)) (dpa_scal h2 fun x hx => s x (List.mem_cons_of_mem _ hx))
theorem dpa_noInts {G : Hp} : ∀ {ds : List PyData} {vs : List V}, DtA G vs ds → (∀ d ∈ ds, ∃ es, d = .tuple es ∧ ∀ e ∈ es, scalD e = true) → DtA (noInts G) vs ds ∧ ∀ i t, vs ≠ V.int i :: t
  | [], _, h, _ => by
    cases h
    exact ⟨.nil, fun i t z => by cases z⟩
  | d :: ds, _, h, s => by
    cases h with
    | cons h1 h2 =>
      obtain ⟨es, rfl, s1⟩ := s d List.mem_cons_self
      cases h1 with
      | tup hs ha => exact ⟨.cons (.tup (noInts_tup hs) (dpa_scal ha s1)) (dpa_noInts h2 fun x hx => s x (List.mem_cons_of_mem _ hx)).1, fun i t z => by cases z⟩
theorem fr_noInts {K : PySem.W.Frag} {G : Hp} {v : V} {ds : List PyData} (h : FrOk K G v (.dat (.list ds))) (s : ∀ d ∈ ds, ∃ es, d = .tuple es ∧ ∀ e ∈ es, scalD e = true) : FrOk K (noInts G) v (.dat (.list ds)) := by
  cases (show Dt G v (.list ds) from h) with
  | lst hs ha =>
    obtain ⟨a, b⟩ := dpa_noInts ha s
    exact Dt.lst (noInts_lst hs b) a
theorem rides_tup (rs : List Ride) : ∀ d ∈ rs.map rideD, ∃ es, d = .tuple es ∧ ∀ e ∈ es, scalD e = true := fun d h => by
  obtain ⟨r, _, rfl⟩ := List.mem_map.mp h
  exact ⟨_, rfl, fun e he => by
    rcases List.mem_cons.mp he with rfl | he
    · rfl
    rcases List.mem_cons.mp he with rfl | he
    · rfl
    rcases List.mem_cons.mp he with rfl | he
    · rfl
    cases he⟩
theorem trips_tup (ts : List Trip) : ∀ d ∈ ts.map tripD, ∃ es, d = .tuple es ∧ ∀ e ∈ es, scalD e = true := fun d h => by
  obtain ⟨r, _, rfl⟩ := List.mem_map.mp h
  exact ⟨_, rfl, fun e he => by
    rcases List.mem_cons.mp he with rfl | he
    · rfl
    rcases List.mem_cons.mp he with rfl | he
    · rfl
    rcases List.mem_cons.mp he with rfl | he
    · rfl
    rcases List.mem_cons.mp he with rfl | he
    · rfl
    cases he⟩
/-- lists of numbers, where they stand -/
def RowsAt (H H' : Hp) (ps : List Addr) (rows : List (List Nat)) : Prop := Paired (fun p (row : List Nat) => H p = none ∧ H' p = some (.lst (row.map fun i => .int (i : Nat)))) ps rows
theorem nums_vs {G : Hp} : ∀ {row : List Nat} {xs : List V}, DtA G xs (numsD row) → xs = row.map fun i => V.int (i : Nat)
  | [], _, h => by cases h; rfl
  | n :: r, _, h => by
    cases h with
    | cons h1 h2 =>
      cases h1
      rw [nums_vs (row := r) h2]
      rfl
theorem rows_vs {G0 H0 G H : Hp} (x : Ext (noInts G0) H0 G H) : ∀ {rows : List (List Nat)} {vs : List V}, DtA G vs (listsD rows) → (∀ r ∈ rows, r ≠ []) → ∃ ps, vs = ps.map .ref ∧ RowsAt H0 H ps rows ∧ ∀ p ∈ ps, G p ≠ none
  | [], _, h, _ => by
    cases h
    exact ⟨[], rfl, .nil, fun _ h => by cases h⟩
  | row :: rows, _, h, n => by
    cases h with
    | cons h1 h2 =>
      obtain ⟨ps, rfl, h3, h4⟩ := rows_vs x (rows := rows) h2 fun r hr => n r (List.mem_cons_of_mem _ hr)
      cases h1 with
      | @lst p xs _ hs ha =>
        have e := nums_vs ha
        subst e
        refine ⟨p :: ps, rfl, .cons ⟨x.nw p ?_ (by rw [hs]; exact fun z => by cases z), x.gh _ _ hs⟩ h3, fun q hq => ?_⟩
        · cases e : noInts G0 p with
          | none => rfl
          | some o =>
            have := x.eg _ _ e
            rw [hs] at this
            cases this
            cases row with
            | nil => exact absurd rfl (n _ List.mem_cons_self)
            | cons i t => exact absurd e noInts_ne
        · rcases List.mem_cons.mp hq with rfl | hq
          · rw [hs]
            exact fun z => by cases z
          · exact h4 q hq
theorem map_int_inj : ∀ {a b : List Nat}, (a.map fun i => V.int (i : Nat)) = (b.map fun i => V.int (i : Nat)) → a = b
  | [], [], _ => rfl
  | [], _ :: _, h => by cases h
  | _ :: _, [], h => by cases h
  | x :: a, y :: b, h => by
    rw [List.map_cons, List.map_cons] at h
    injection h with h1 h2
    injection h1 with h1
    rw [map_int_inj h2, Int.ofNat_inj.mp h1]
theorem rows_nodup {H0 H : Hp} : ∀ {ps : List Addr} {rows : List (List Nat)}, RowsAt H0 H ps rows → (rows.map fun r => r.headD 0).Pairwise (· < ·) → ps.Nodup
  | _, _, .nil, _ => .nil
  | _, _, .cons (a := p) (l₁ := ps) (b := row) (l₂ := rows) r t, h => by
    rw [List.map_cons, List.pairwise_cons] at h
    refine List.nodup_cons.mpr ⟨fun hp => ?_, rows_nodup t h.2⟩
    obtain ⟨i, hi⟩ := List.mem_iff_getElem?.mp hp
    have li : i < rows.length := by
      have := (List.getElem?_eq_some_iff.mp hi).1
      rw [paired_len t] at this
      exact this
    obtain ⟨p', h1, h2⟩ := paired_get t (List.getElem?_eq_getElem li)
    rw [hi] at h1
    cases h1
    have e := h2.2
    rw [r.2] at e
    injection e with e
    injection e with e
    have e := map_int_inj e
    have := h.1 _ (List.mem_map.mpr ⟨_, List.getElem_mem li, rfl⟩)
    rw [← e] at this
    exact Nat.lt_irrefl _ this
end K8

set_option maxRecDepth 100000
set_option maxHeartbeats 4000000
namespace K8
open PySem PySem.Spec PyProof.Rows L2 Fw Bus
open Dj (Best dist)
local macro_rules | `(tactic| walk_at "sel") => `(tactic| repeat (first | with_reducible apply Sel.z | apply Sel.s))
local macro_rules | `(tactic| walk_at "upd") => `(tactic| repeat (first | with_reducible apply Upd.z | apply Upd.s))
local macro_rules | `(tactic| walk_at "has") => `(tactic| repeat (first | with_reducible apply Has.z | apply Has.s))
local macro_rules | `(tactic| walk_at "fz") => `(tactic| repeat (first | exact Fz.nil | apply Fz.un | apply Fz.dat | apply Fz.scr | apply Fz.rng | apply Fz.dic | apply Fz.ldc | apply Fz.own | apply Fz.odi | apply Fz.any))
local macro_rules | `(tactic| walk_at "bi") => `(tactic| first | with_reducible exact BI.len | with_reducible exact BI.max | with_reducible exact BI.min | with_reducible exact BI.all | with_reducible exact BI.any | with_reducible exact BI.sorted | with_reducible exact BI.sum | with_reducible exact BI.abs)
local macro_rules | `(tactic| walk_at "bt") => `(tactic| first | with_reducible exact BT.list | with_reducible exact BT.tuple | with_reducible exact BT.str | with_reducible exact BT.int | with_reducible exact BT.bool | with_reducible exact BT.dict)
local macro_rules | `(tactic| walk_at "bd") => `(tactic| first | exact bd_add | exact bd_sub | (apply bd_mod <;> try decide) | (apply bd_fdiv <;> try decide) | apply bd_adds | apply bd_muls | apply bd_mul | apply bd_cat)
local macro_rules | `(tactic| walk_at "cd") => `(tactic| first | exact cd_lt | exact cd_le | exact cd_gt | exact cd_ge | exact cd_eqi | exact cd_nei | exact cd_eqs | exact cd_nes | exact cd_inSign | apply cd_eqD (Nm.hu (by assumption)) | apply cd_neD (Nm.hu (by assumption)) | apply cd_inD (Nm.hu5 (by assumption)) | apply cd_notInD (Nm.hu5 (by assumption)))
local macro_rules | `(tactic| walk_at "id") => `(tactic| first | (apply id_l <;> try first | assumption | rfl) | (apply id_t <;> try first | assumption | rfl) | (apply id_s <;> try first | assumption | (show Str.length _ ≤ sizeLine; decide +kernel)))
local macro_rules | `(tactic| walk_at "cl") => `(tactic| first | exact cl_lenL | exact cl_lenT | apply cl_lenS | exact cl_list | exact cl_max2 (Nm.calm (by assumption)) | exact cl_all (Nm.calm (by assumption)))
local macro_rules | `(tactic| walk_at "x") => `(tactic| first
  | exact xe_int | exact xe_str | exact xe_bl | exact xe_non
  | (apply ve; · assumption
     · walk_at "sel")
  | (apply ve'; · assumption
     · walk_at "sel"
     all_goals (first | rfl | (intro z; cases z; done)))
  | (apply gle_int; · assumption
     · walk_at "has"
     · with_reducible assumption)
  | (apply gle_str; · assumption
     · walk_at "has"
     · with_reducible assumption)
  | (show Nm _ _ _ _ _ _ _ _ _ _; assumption)
  | (apply xe_bin <;> try walk_at "x") | walk_at "bd"
  | (apply xt_cmp <;> try walk_at "x") | (apply xe_cmp <;> try walk_at "x") | walk_at "cd"
  | (show behindInMarks _ _ = false; first | exact nomark _ | rfl)
  | (apply xt_not <;> try walk_at "x") | (apply xe_not <;> try walk_at "x")
  | (apply xe_unop <;> try walk_at "x") | exact ud_neg
  | (apply xt_pw; apply xw_and <;> try walk_at "x") | (apply xt_pw; apply xw_or <;> try walk_at "x")
  | (apply xw_and <;> try walk_at "x") | (apply xw_or <;> try walk_at "x") | (apply xw_and1 <;> try walk_at "x") | (apply xw_or1 <;> try walk_at "x")
  | (apply xe_and <;> try walk_at "x") | (apply xe_or <;> try walk_at "x") | (apply xe_one <;> try walk_at "x")
  | (apply cisi; · assumption
     · walk_at "bt"
     · walk_at "has"
     · walk_at "has"
     · walk_at "has"
     · walk_at "has"
     all_goals try walk_at "x")
  | (apply cbi; · assumption
     · walk_at "bi"
     · walk_at "has"
     · walk_at "has"
     all_goals try walk_at "x")
  | (apply cty; · assumption
     · walk_at "bt"
     · walk_at "has"
     · walk_at "has"
     all_goals walk_at "x")
  | (apply xe_fr (c := .own _)
     (apply cty; · assumption
      · walk_at "bt"
      · walk_at "has"
      · walk_at "has"
      all_goals walk_at "x"))
  | (apply cty; · assumption
     · walk_at "bt"
     · walk_at "has"
     · walk_at "has"
     all_goals try walk_at "x")
  | walk_at "cl"
  | exact xd_nil | (apply xd_cons <;> try walk_at "x") | exact xa_nil | (apply xa_c <;> try walk_at "x")
  | (apply xe_list <;> try walk_at "x") | (apply xe_tup <;> try walk_at "x")
  | (apply xe_ix <;> try walk_at "x") | walk_at "id"
  | (show PlainIx _; exact fun _ _ => rfl)
  | (apply xt_chainI op_le op_le <;> try walk_at "x") | (apply xt_chainI op_le op_lt <;> try walk_at "x") | (apply xe_chainI op_le op_le <;> try walk_at "x") | (apply xe_chainI op_le op_lt <;> try walk_at "x")
  | (apply xt_val <;> try walk_at "x")
  | (apply xe_fr (c := .own _) <;> try walk_at "x")
  | (show List.length _ ≤ 100000; exact Nat.le_of_ble_eq_true rfl)
  | (show lastMarks _ _ = false; with_unfolding_all rfl)
  | (show _ = _; rfl)
  | (intro _; walk_at "x"))
open Kg (Mt Rch Reach keys Dead Flip Flipped put Chain rowOf rowsL startL apartL wants)
open Evl (Ex)
/-- what a plan gives: a new tuple of a new list of new lists, and of a new list -/
def spPlan (K : PySem.W.Frag) : Sp := fun vs H Q _ => ∃ (a : ABus2) (G : Hp), Ex G H ∧ Paired (FrOk K G) vs a.b.cells ∧ ∀ H' rows apart T r ap ps, PlanOk (laid a.b.rs a.b.ts) a.b.ts rows apart → Ex H H' → H T = none → H' T = some (.tup [.ref r, .ref ap]) → H r = none → H' r = some (.lst (ps.map .ref)) → H ap = none → H' ap = some (.lst (apart.map fun i => .int (i : Nat))) → r ≠ ap → r ∉ ps → ap ∉ ps → ps.Nodup → RowsAt H H' ps rows → Q (.ref T) H'
section
variable {P : Program} {w : World} {K : PySem.W.Frag} {mg : Str → Option Value} {base : Heap}
theorem x_two {X : Cx} {k : Nat} {M : List (Option Str)} {GL BL : List Str} {cs : List Cell} {pos p pos' p1 p2 tpos : Pos} {Po : Po} {nn : Nat} (nm : Nm X P w K mg base k M GL BL) (nd : Nd X M) {j : Nat} (C : Cal P w K mg base "paired" j (spPaired K)) (hj : j ≤ k) (hg : Has GL "paired") (a : ABeh) {x y : Str} {e : Expr} {i1 i2 : Nat}
    (m1 : M[i1]? = some (some x)) (m2 : M[i2]? = some (some y)) (he : XE X cs e (.dat (.list (listsD a.B))))
    (kn : ∀ nx ah kn ka DL DR, PairedOk a.n a.B nx ah kn ka → Dead (bOf a.B) ah DL DR → (∀ i < a.n, nx i = none → DL i) → Po.nx ((cs.set i1 (.dic kn)).set i2 (.dic ka)))
    (s1 : starEach [e] X.env = (false, eval e X.env) :: starEach [] X.env := by rfl) (hpl : (backTo pos (starEach [] X.env)).any (·.1) = false := by rfl)
    (hs : swapsWithSole [.Tuple [.Name x p1, .Name y p2] nn tpos] (.Call (.Name "paired" p) [e] [] pos) pos'.line X.env = pure false := by rfl) (hw : swappedStores [.Tuple [.Name x p1, .Name y p2] nn tpos] (.Call (.Name "paired" p) [e] [] pos) X.env = pure none := by rfl) (h1 : (assignEach [.Tuple [.Name x p1, .Name y p2] nn tpos] X.env).map (·.2) = [assign (.Tuple [.Name x p1, .Name y p2] nn tpos) X.env] := by rfl)
    (hst : (assignEach [.Name x p1, .Name y p2] X.env).findIdx? (·.1) = none := by rfl) (g1 : (assignEach [.Name x p1, .Name y p2] X.env).map (·.2) = assign (.Name x p1) X.env :: (assignEach [.Name y p2] X.env).map (·.2) := by rfl) (g2 : (assignEach [.Name y p2] X.env).map (·.2) = assign (.Name y p2) X.env :: (assignEach [] X.env).map (·.2) := by rfl) (hn : 2 = (assignEach [.Name x p1, .Name y p2] X.env).length := by rfl) :
    XS X cs (.Assign [.Tuple [.Name x p1, .Name y p2] nn tpos] (.Call (.Name "paired" p) [e] [] pos) pos') Po := .mk fun {G0 H0 G H σ} en D r => by
  obtain ⟨f, fd, ps, F, hm, hk, hb⟩ := C
  obtain ⟨rfl, rfl, rfl, rfl, rfl⟩ : X.prog = P ∧ X.w = w ∧ X.K = K ∧ X.mg = mg ∧ X.base = base := ⟨nm.hP, nm.hw, nm.hK, nm.hmg, nm.hbase⟩
  refine ⟨_, ps_asg pe_v pg_v hs hw h1, _, pe_call F (nm.room.mono hj) (nm.gl _ hg.mem).1 hm hk hb .nil pass0 (pa_cons pe_v pa_nil s1) (nm.gl _ hg.mem).2.1 s1 hpl, he en fun v G1 H1 x1 r1 => ⟨a, G1, x1.gh, .cons r1 .nil, fun v G' H' nx ah ka kb DL DR ok D' hD x2 ⟨T, u, z, e1, gT, f1, f2⟩ => ?_⟩⟩
  subst e1
  refine ⟨_, pg_tup nm.calm pgs_v rfl hst, _, _, rfl, SqT.of (x2.gh _ _ gT), hn, _, pgs_cons pg_v pgs_v g1, _, _, rfl, _, pg_name nm.nd (nm.pre i1 x m1) (nd.loc x (List.mem_of_getElem? m1)).1 (nd.loc x (List.mem_of_getElem? m1)).2, _, pgs_cons pg_v pgs_v g2, _, _, rfl, _, pg_name nm.nd (nm.pre i2 y m2) (nd.loc y (List.mem_of_getElem? m2)).1 (nd.loc y (List.mem_of_getElem? m2)).2, _, pgs_nil, rfl, ?_⟩
  exact r.nx _ _ _ _ (kn _ _ _ _ _ _ ok D' hD) (((en.step (x1.trans x2)).set (Ext.refl x2.gh) f1.rok i1).set (Ext.refl x2.gh) f2.rok i2) (x1.eg.trans x2.eg)
theorem ok_plan {f : Addr} {fd : FuncData} {k : Nat} (F : Fun K "plan" "plan" s_plan f fd) (hb : Bl mg) {j : Nat} (hj : j ≤ k) (CL : Cal P w K mg base "look_at_lists" j (cLook K)) (CF : Cal P w K mg base "followers" j (cFollowers K)) (CP : Cal P w K mg base "paired" j (spPaired K)) (CR : Cal P w K mg base "row_from" j (cRowFrom K)) (CA : Cal P w K mg base "standing_apart" j (cApart K)) : FnOk P w K mg base CX0 (k + 1) f fd ["rides", "trips"] (spPlan K) := by
  refine F.ok sc_plan (fun vs H Q E h => ?_) (fun cdv A outer s H vs Q E hr h => ?_)
  · obtain ⟨a, G, _, hp, _⟩ := h
    rw [paired_len hp]
    rfl
  obtain ⟨nm, nd⟩ := nm_plan (P := P) (w := w) (K := K) (mg := mg) (base := base) (outer := outer) (H := H) (E := E) hb hr
  obtain ⟨⟨b, l1, l2⟩, G, gh, hp, q⟩ := h
  have hp2 : Paired (FrOk K (noInts G)) vs b.cells := by
    cases hp with
    | cons h1 t =>
      cases t with
      | cons h2 t =>
        cases t
        exact .cons (fr_noInts h1 (rides_tup _)) (.cons (fr_noInts h2 (trips_tup _)) .nil)
  refine ⟨_, pss_v, ?_⟩
  have en0 : Env K (noInts G) H (noInts G) H (L2.start N_plan vs) [.dat (.list (b.rs.map rideD)), .dat (.list (b.ts.map tripD)), .un, .un, .un, .un, .un] := by
    have z := env_start (N := N_plan) ((noInts_ex G).trans gh) hp2
    have lv : vs.length = 2 := paired_len hp
    rw [lv] at z
    exact z
  obtain ⟨B, hB⟩ : ∃ B, folB (laid b.rs b.ts) b.ts = B := ⟨_, rfl⟩
  have bl : B.length = b.ts.length := by rw [← hB, folB_len]
  refine rs_cons (XS.raw (N := fun c => c = [.dat (.list (b.rs.map rideD)), .dat (.list (b.ts.map tripD)), .un, .un, .un, .un, .un]) (x_exprP (cal nm CL hj (by walk_at "has") b (by walk_at "x")) fun _ => rfl) en0 fun G1 H1 σ1 cs1 e1 en1 x1 => ?_)
  subst e1
  refine rs_cons (XS.raw (N := fun c => c = [.dat (.list (b.rs.map rideD)), .dat (.list (b.ts.map tripD)), .dat (.list (listsD B)), .un, .un, .un, .un]) (set nm nd (c := .dat (.list (listsD B))) (xe_fr (c := .own _) (XE.is (calE nm CF hj (by walk_at "has") ⟨b, l1, l2⟩ (by walk_at "x")) (show Cell.own (listsD (folB (laid b.rs b.ts) b.ts)) = .own (listsD B) by rw [hB]))) (by walk_at "upd") rfl) en1 fun G2 H2 σ2 cs2 e2 en2 x2 => ?_)
  subst e2
  refine rs_cons (XS.raw (N := fun c => ∃ nx ah kn ka DL DR, PairedOk b.ts.length B nx ah kn ka ∧ Dead (bOf B) ah DL DR ∧ (∀ i < b.ts.length, nx i = none → DL i) ∧ c = [.dat (.list (b.rs.map rideD)), .dat (.list (b.ts.map tripD)), .dat (.list (listsD B)), .dic kn, .dic ka, .un, .un]) (x_two nm nd CP hj (by walk_at "has") ⟨b.ts.length, B, bl, (fun i j h => by rw [← hB] at h; exact fol_lt h), l2⟩ (i1 := 3) (i2 := 4) rfl rfl (by walk_at "x") fun nx ah kn ka DL DR ok D hD => ⟨nx, ah, kn, ka, DL, DR, ok, D, hD, rfl⟩) en2 fun G3 H3 σ3 cs3 e3 en3 x3 => ?_)
  obtain ⟨nx, ah, kn, ka, DL, DR, ok, D, hD, rfl⟩ := e3
  have hpos := laid_pos b.hr b.ht
  have rk : ∀ i j, nx i = some j → rkF b.ts j < rkF b.ts i := fun i j h => (rk_step hpos b.ht (mem_fol.mp (by rw [hB]; exact ok.M.ed i j h))).1
  have la : ∀ i, (lookD ka (.inl (i : Nat))).isSome = !(ah i).isNone := fun i => by
    rw [ok.ta i]
    cases ah i <;> rfl
  refine rs_cons (XS.raw (N := fun c => c = [.dat (.list (b.rs.map rideD)), .dat (.list (b.ts.map tripD)), .dat (.list (listsD B)), .dic kn, .dic ka, .own (listsD (rowsL b.ts.length nx ah)), .un]) (setLcg nm nd (N := N_plan) (sc := defScope s_plan) rfl rfl 6 (ds := rangeD 0 ((b.ts.length : Nat) : Int).toNat) (fun i => listsD ((((List.range b.ts.length).take i).filter fun i => (ah i).isNone).map (rowOf nx))) rfl (by rw [rangeD_len]; omega) (rg1 nm (by walk_at "has") (by walk_at "has") (XE.is (by walk_at "x") (by rw [List.length_map])) (by omega)) (by decide +kernel) (by walk_at "upd") (show (defScope s_plan).names.lookup ("rows" : Str) = some NameKind.local by decide +kernel) (sw_true rfl rfl rfl (by decide +kernel)) ?_ ?_) en3 fun G4 H4 σ4 cs4 e4 en4 x4 => ?_)
  · intro i d hd
    obtain ⟨hi, rfl⟩ := rangeD_inv hd
    rw [show (0 : Int) + (i : Nat) = ((i : Nat) : Int) by omega]
    have hri : (List.range b.ts.length)[i]? = some i := by rw [List.getElem?_range (by omega)]
    refine ⟨(ah i).isNone, fun B' => xts_one ?_, fun hk => ⟨.list (numsD (rowOf nx i)), fun B' => ?_, ?_⟩, fun hk => ?_⟩
    · refine blkT nm N_plan (defScope s_plan) [none, none, none, none, some "ahead", none, some "number"] [] rfl rfl (by decide +kernel) fun nmb => ?_
      show XT _ [.dat (.list (b.rs.map rideD)), .dat (.list (b.ts.map tripD)), .dat (.list (listsD B)), .dic kn, .dic ka, .un, .dat (.int (i : Nat))] _ _
      exact XT.is (xt_dnin nmb (kd := .int (i : Nat)) (kvs := ka) (by walk_at "x") (xe_ldc (by walk_at "x")) rfl) (by rw [la, Bool.not_not])
    · refine blk nm N_plan (defScope s_plan) [none, none, none, some "nexts", none, none, some "number"] ["row_from"] rfl rfl (by decide +kernel) fun nmb => ?_
      show XE _ [.dat (.list (b.rs.map rideD)), .dat (.list (b.ts.map tripD)), .dat (.list (listsD B)), .dic kn, .dic ka, .un, .dat (.int (i : Nat))] _ _
      refine xe_fr (c := .own _) ((cal nmb CR hj (by walk_at "has") ⟨i, nx, kn, ok.tn, rkF b.ts, rk, by have := rkF_le b.ts i; omega⟩ (by walk_at "x")).to fun c' h => ?_)
      obtain ⟨r, h1, h2⟩ := h
      rw [h2, h1.row]
    · show listsD _ = listsD _ ++ _
      rw [filt_step hri, if_pos hk, List.map_append]
      unfold listsD
      rw [List.map_append]
      rfl
    · show listsD _ = listsD _
      rw [filt_step hri, hk, if_neg (by decide), List.append_nil]
  · rw [rangeD_len, List.take_of_length_le (by rw [List.length_range]; omega)]
    rfl
  subst e4
  obtain ⟨v5, hv5, r, vs5, rfl, r0, rG, rH, rA⟩ := en4.ok 5 _ rfl (by intro z; cases z)
  refine rs_cons ⟨_, ps_ret pe_v, _, pe_tup (pa_cons pe_v (pa_cons pe_v pa_nil)), r_var nm (i := 5) rfl hv5 ?_⟩
  refine XEP.run (show Fw.XEP (cxOf CX0 P w K mg base N_plan "plan" (defScope s_plan) f cdv A outer s H E).nox [.dat (.list (b.rs.map rideD)), .dat (.list (b.ts.map tripD)), .dat (.list (listsD B)), .dic kn, .dic ka, .own (listsD (rowsL b.ts.length nx ah)), .un] _ _ from cal nm CA hj (by walk_at "has") ⟨b.ts.length, B, bl, (fun i j h => by rw [← hB] at h; exact fol_lt h), l2, nx, ah, kn, ka, ok⟩ (by walk_at "x")) en4 fun v6 G5 H5 c6 pc x5 r6 => ?_
  obtain ⟨F', R, rfl⟩ := pc
  have R : Reach b.ts.length (bOf B) ah (fun x => x < b.ts.length ∧ nx x = none) F' := R
  obtain ⟨ap, vs6, rfl, a0, aG, aH, aA⟩ := r6
  refine ⟨Evl.sz_of (Nat.le_of_ble_eq_true rfl), fun T hT => ?_⟩
  subst hB
  have pl := plan_ok b.hr b.ht ok.M ok.hx D hD R
  have z4 := en4.ext
  obtain ⟨ps, rfl, ra, pg⟩ := rows_vs z4 rA pl.ne
  have e := nums_vs aA
  subst e
  have up : ∀ a o, H5 a = some o → upd H5 T (.tup [.ref r, .ref ap]) a = some o := fun a o h => Evl.Ex.new hT _ _ h
  have e45 : Ex H4 H5 := x5.eh
  refine q _ _ _ T r ap ps pl ((z4.eh.trans e45).trans (Evl.Ex.new hT)) (Evl.fresh_back (z4.eh.trans e45) hT) upd_same r0 (up _ _ (e45 _ _ rH)) (Evl.fresh_back z4.eh a0) (up _ _ aH) (fun z => ?_) (fun z => pg r z rG) (fun z => ?_) (rows_nodup ra pl.heads) (Paired.mapP ra fun p row h => ⟨h.1, up _ _ (e45 _ _ h.2)⟩)
  · subst z
    rw [rH] at a0
    cases a0
  · have := pg ap z
    cases g : G4 ap with
    | none => exact this g
    | some o =>
      have := x5.eg _ _ g
      rw [aG] at this
      cases this
end
end K8

set_option maxRecDepth 100000
set_option maxHeartbeats 4000000
namespace K8
open PySem PySem.Spec PyProof.Rows L2 Fw Bus
open Dj (Best dist)
local macro_rules | `(tactic| walk_at "sel") => `(tactic| repeat (first | with_reducible apply Sel.z | apply Sel.s))
local macro_rules | `(tactic| walk_at "upd") => `(tactic| repeat (first | with_reducible apply Upd.z | apply Upd.s))
local macro_rules | `(tactic| walk_at "has") => `(tactic| repeat (first | with_reducible apply Has.z | apply Has.s))
local macro_rules | `(tactic| walk_at "fz") => `(tactic| repeat (first | exact Fz.nil | apply Fz.un | apply Fz.dat | apply Fz.scr | apply Fz.rng | apply Fz.dic | apply Fz.ldc | apply Fz.own | apply Fz.odi | apply Fz.any))
local macro_rules | `(tactic| walk_at "bi") => `(tactic| first | with_reducible exact BI.len | with_reducible exact BI.max | with_reducible exact BI.min | with_reducible exact BI.all | with_reducible exact BI.any | with_reducible exact BI.sorted | with_reducible exact BI.sum | with_reducible exact BI.abs)
local macro_rules | `(tactic| walk_at "bt") => `(tactic| first | with_reducible exact BT.list | with_reducible exact BT.tuple | with_reducible exact BT.str | with_reducible exact BT.int | with_reducible exact BT.bool | with_reducible exact BT.dict)
local macro_rules | `(tactic| walk_at "bd") => `(tactic| first | exact bd_add | exact bd_sub | (apply bd_mod <;> try decide) | (apply bd_fdiv <;> try decide) | apply bd_adds | apply bd_muls | apply bd_mul | apply bd_cat)
local macro_rules | `(tactic| walk_at "cd") => `(tactic| first | exact cd_lt | exact cd_le | exact cd_gt | exact cd_ge | exact cd_eqi | exact cd_nei | exact cd_eqs | exact cd_nes | exact cd_inSign | apply cd_eqD (Nm.hu (by assumption)) | apply cd_neD (Nm.hu (by assumption)) | apply cd_inD (Nm.hu5 (by assumption)) | apply cd_notInD (Nm.hu5 (by assumption)))
local macro_rules | `(tactic| walk_at "id") => `(tactic| first | (apply id_l <;> try first | assumption | rfl) | (apply id_t <;> try first | assumption | rfl) | (apply id_s <;> try first | assumption | (show Str.length _ ≤ sizeLine; decide +kernel)))
local macro_rules | `(tactic| walk_at "cl") => `(tactic| first | exact cl_lenL | exact cl_lenT | apply cl_lenS | exact cl_list | exact cl_max2 (Nm.calm (by assumption)) | exact cl_all (Nm.calm (by assumption)))
local macro_rules | `(tactic| walk_at "x") => `(tactic| first
  | exact xe_int | exact xe_str | exact xe_bl | exact xe_non
  | (apply ve; · assumption
     · walk_at "sel")
  | (apply ve'; · assumption
     · walk_at "sel"
     all_goals (first | rfl | (intro z; cases z; done)))
  | (apply gle_int; · assumption
     · walk_at "has"
     · with_reducible assumption)
  | (apply gle_str; · assumption
     · walk_at "has"
     · with_reducible assumption)
  | (show Nm _ _ _ _ _ _ _ _ _ _; assumption)
  | (apply xe_bin <;> try walk_at "x") | walk_at "bd"
  | (apply xt_cmp <;> try walk_at "x") | (apply xe_cmp <;> try walk_at "x") | walk_at "cd"
  | (show behindInMarks _ _ = false; first | exact nomark _ | rfl)
  | (apply xt_not <;> try walk_at "x") | (apply xe_not <;> try walk_at "x")
  | (apply xe_unop <;> try walk_at "x") | exact ud_neg
  | (apply xt_pw; apply xw_and <;> try walk_at "x") | (apply xt_pw; apply xw_or <;> try walk_at "x")
  | (apply xw_and <;> try walk_at "x") | (apply xw_or <;> try walk_at "x") | (apply xw_and1 <;> try walk_at "x") | (apply xw_or1 <;> try walk_at "x")
  | (apply xe_and <;> try walk_at "x") | (apply xe_or <;> try walk_at "x") | (apply xe_one <;> try walk_at "x")
  | (apply cisi; · assumption
     · walk_at "bt"
     · walk_at "has"
     · walk_at "has"
     · walk_at "has"
     · walk_at "has"
     all_goals try walk_at "x")
  | (apply cbi; · assumption
     · walk_at "bi"
     · walk_at "has"
     · walk_at "has"
     all_goals try walk_at "x")
  | (apply cty; · assumption
     · walk_at "bt"
     · walk_at "has"
     · walk_at "has"
     all_goals walk_at "x")
  | (apply xe_fr (c := .own _)
     (apply cty; · assumption
      · walk_at "bt"
      · walk_at "has"
      · walk_at "has"
      all_goals walk_at "x"))
  | (apply cty; · assumption
     · walk_at "bt"
     · walk_at "has"
     · walk_at "has"
     all_goals try walk_at "x")
  | walk_at "cl"
  | exact xd_nil | (apply xd_cons <;> try walk_at "x") | exact xa_nil | (apply xa_c <;> try walk_at "x")
  | (apply xe_list <;> try walk_at "x") | (apply xe_tup <;> try walk_at "x")
  | (apply xe_ix <;> try walk_at "x") | walk_at "id"
  | (show PlainIx _; exact fun _ _ => rfl)
  | (apply xt_chainI op_le op_le <;> try walk_at "x") | (apply xt_chainI op_le op_lt <;> try walk_at "x") | (apply xe_chainI op_le op_le <;> try walk_at "x") | (apply xe_chainI op_le op_lt <;> try walk_at "x")
  | (apply xt_val <;> try walk_at "x")
  | (apply xe_fr (c := .own _) <;> try walk_at "x")
  | (show List.length _ ≤ 100000; exact Nat.le_of_ble_eq_true rfl)
  | (show lastMarks _ _ = false; with_unfolding_all rfl)
  | (show _ = _; rfl)
  | (intro _; walk_at "x"))
open Evl (Ex)
/-- a plan, frozen -/
abbrev cPlanF (K : PySem.W.Frag) : Sp := Con K (fun a : ABus2 => a.b.cells) (fun a c => ∃ rows apart, PlanOk (laid a.b.rs a.b.ts) a.b.ts rows apart ∧ c = .dat (.tuple [.list (listsD rows), .list (numsD apart)]))
theorem nums_dt' {H : Hp} : ∀ (l : List Nat), DtA H (l.map fun i => V.int (i : Nat)) (numsD l)
  | [] => .nil
  | n :: l => .cons (.int _) (nums_dt' l)
theorem rows_dt' {H0 H G : Hp} (g : ∀ (p : Addr) o, H0 p = none → H p = some o → G p = some o) : ∀ {ps : List Addr} {rows : List (List Nat)}, RowsAt H0 H ps rows → DtA G (ps.map .ref) (listsD rows)
  | _, _, .nil => .nil
  | _, _, .cons r t => .cons (.lst (g _ _ r.1 r.2) (nums_dt' _)) (rows_dt' g t)
theorem plan_frz {K : PySem.W.Frag} {vs : List V} {H : Hp} {Q : VK} {E : XK} (h : cPlanF K vs H Q E) : spPlan K vs H Q E := by
  obtain ⟨a, G, gh, hp, q⟩ := h
  refine ⟨a, G, gh, hp, fun H' rows apart T r ap ps pl e t0 tH r0 rH a0 aH _ _ _ _ ra => ?_⟩
  have x : Ext G H (fun p => if H p = none then H' p else G p) H' := by
    refine ⟨fun p u h => ?_, e, fun p u h => ?_, fun p g g' => ?_⟩
    · show (if H p = none then H' p else G p) = some u
      rw [if_neg (by rw [gh _ _ h]; exact fun z => by cases z)]
      exact h
    · have h : (if H p = none then H' p else G p) = some u := h
      split at h
      · exact h
      · exact e _ _ (gh _ _ h)
    · have g' : (if H p = none then H' p else G p) ≠ none := g'
      split at g'
      · assumption
      · exact absurd g g'
  have gn : ∀ (p : Addr) o, H p = none → H' p = some o → (fun p => if H p = none then H' p else G p) p = some o := fun p o h1 h2 => by
    show (if H p = none then H' p else G p) = some o
    rw [if_pos h1]
    exact h2
  exact q _ _ _ _ ⟨rows, apart, pl, rfl⟩ x (Dt.tup (gn _ _ t0 tH) (.cons (.lst (gn _ _ r0 rH) (rows_dt' gn ra)) (.cons (.lst (gn _ _ a0 aH) (nums_dt' _)) .nil)))
end K8

set_option maxRecDepth 100000
set_option maxHeartbeats 4000000
namespace K8
open PySem PySem.Spec PyProof.Rows L2 Fw Bus
open Dj (Best dist)
local macro_rules | `(tactic| walk_at "sel") => `(tactic| repeat (first | with_reducible apply Sel.z | apply Sel.s))
local macro_rules | `(tactic| walk_at "upd") => `(tactic| repeat (first | with_reducible apply Upd.z | apply Upd.s))
local macro_rules | `(tactic| walk_at "has") => `(tactic| repeat (first | with_reducible apply Has.z | apply Has.s))
local macro_rules | `(tactic| walk_at "fz") => `(tactic| repeat (first | exact Fz.nil | apply Fz.un | apply Fz.dat | apply Fz.scr | apply Fz.rng | apply Fz.dic | apply Fz.ldc | apply Fz.own | apply Fz.odi | apply Fz.any))
local macro_rules | `(tactic| walk_at "bi") => `(tactic| first | with_reducible exact BI.len | with_reducible exact BI.max | with_reducible exact BI.min | with_reducible exact BI.all | with_reducible exact BI.any | with_reducible exact BI.sorted | with_reducible exact BI.sum | with_reducible exact BI.abs)
local macro_rules | `(tactic| walk_at "bt") => `(tactic| first | with_reducible exact BT.list | with_reducible exact BT.tuple | with_reducible exact BT.str | with_reducible exact BT.int | with_reducible exact BT.bool | with_reducible exact BT.dict)
local macro_rules | `(tactic| walk_at "bd") => `(tactic| first | exact bd_add | exact bd_sub | (apply bd_mod <;> try decide) | (apply bd_fdiv <;> try decide) | apply bd_adds | apply bd_muls | apply bd_mul | apply bd_cat)
local macro_rules | `(tactic| walk_at "cd") => `(tactic| first | exact cd_lt | exact cd_le | exact cd_gt | exact cd_ge | exact cd_eqi | exact cd_nei | exact cd_eqs | exact cd_nes | exact cd_inSign | apply cd_eqD (Nm.hu (by assumption)) | apply cd_neD (Nm.hu (by assumption)) | apply cd_inD (Nm.hu5 (by assumption)) | apply cd_notInD (Nm.hu5 (by assumption)))
local macro_rules | `(tactic| walk_at "id") => `(tactic| first | (apply id_l <;> try first | assumption | rfl) | (apply id_t <;> try first | assumption | rfl) | (apply id_s <;> try first | assumption | (show Str.length _ ≤ sizeLine; decide +kernel)))
local macro_rules | `(tactic| walk_at "cl") => `(tactic| first | exact cl_lenL | exact cl_lenT | apply cl_lenS | exact cl_list | exact cl_max2 (Nm.calm (by assumption)) | exact cl_all (Nm.calm (by assumption)))
local macro_rules | `(tactic| walk_at "x") => `(tactic| first
  | exact xe_int | exact xe_str | exact xe_bl | exact xe_non
  | (apply ve; · assumption
     · walk_at "sel")
  | (apply ve'; · assumption
     · walk_at "sel"
     all_goals (first | rfl | (intro z; cases z; done)))
  | (apply gle_int; · assumption
     · walk_at "has"
     · with_reducible assumption)
  | (apply gle_str; · assumption
     · walk_at "has"
     · with_reducible assumption)
  | (show Nm _ _ _ _ _ _ _ _ _ _; assumption)
  | (apply xe_bin <;> try walk_at "x") | walk_at "bd"
  | (apply xt_cmp <;> try walk_at "x") | (apply xe_cmp <;> try walk_at "x") | walk_at "cd"
  | (show behindInMarks _ _ = false; first | exact nomark _ | rfl)
  | (apply xt_not <;> try walk_at "x") | (apply xe_not <;> try walk_at "x")
  | (apply xe_unop <;> try walk_at "x") | exact ud_neg
  | (apply xt_pw; apply xw_and <;> try walk_at "x") | (apply xt_pw; apply xw_or <;> try walk_at "x")
  | (apply xw_and <;> try walk_at "x") | (apply xw_or <;> try walk_at "x") | (apply xw_and1 <;> try walk_at "x") | (apply xw_or1 <;> try walk_at "x")
  | (apply xe_and <;> try walk_at "x") | (apply xe_or <;> try walk_at "x") | (apply xe_one <;> try walk_at "x")
  | (apply cisi; · assumption
     · walk_at "bt"
     · walk_at "has"
     · walk_at "has"
     · walk_at "has"
     · walk_at "has"
     all_goals try walk_at "x")
  | (apply cbi; · assumption
     · walk_at "bi"
     · walk_at "has"
     · walk_at "has"
     all_goals try walk_at "x")
  | (apply cty; · assumption
     · walk_at "bt"
     · walk_at "has"
     · walk_at "has"
     all_goals walk_at "x")
  | (apply xe_fr (c := .own _)
     (apply cty; · assumption
      · walk_at "bt"
      · walk_at "has"
      · walk_at "has"
      all_goals walk_at "x"))
  | (apply cty; · assumption
     · walk_at "bt"
     · walk_at "has"
     · walk_at "has"
     all_goals try walk_at "x")
  | walk_at "cl"
  | exact xd_nil | (apply xd_cons <;> try walk_at "x") | exact xa_nil | (apply xa_c <;> try walk_at "x")
  | (apply xe_list <;> try walk_at "x") | (apply xe_tup <;> try walk_at "x")
  | (apply xe_ix <;> try walk_at "x") | walk_at "id"
  | (show PlainIx _; exact fun _ _ => rfl)
  | (apply xt_chainI op_le op_le <;> try walk_at "x") | (apply xt_chainI op_le op_lt <;> try walk_at "x") | (apply xe_chainI op_le op_le <;> try walk_at "x") | (apply xe_chainI op_le op_lt <;> try walk_at "x")
  | (apply xt_val <;> try walk_at "x")
  | (apply xe_fr (c := .own _) <;> try walk_at "x")
  | (show List.length _ ≤ 100000; exact Nat.le_of_ble_eq_true rfl)
  | (show lastMarks _ _ = false; with_unfolding_all rfl)
  | (show _ = _; rfl)
  | (intro _; walk_at "x"))
open Evl (Ex)
theorem dpa_range {G : Hp} : ∀ (l : List Nat), DtA G (l.map fun (i : Nat) => V.int (0 + (i : Nat))) (numsD l)
  | [] => .nil
  | n :: r => .cons (by show Dt G (V.int (0 + (n : Int))) (.int (n : Nat)); rw [Int.zero_add]; exact .int _) (dpa_range r)
section
variable {P : Program} {w : World} {K : PySem.W.Frag} {mg : Str → Option Value} {base : Heap}
theorem xe_listRg {X : Cx} {k : Nat} {M : List (Option Str)} {GL BL : List Str} {cs : List Cell} {pos p pos' p' : Pos} (nm : Nm X P w K mg base k M GL BL) {a : Expr} {n : Nat} (hg : Has GL "range") (hb : Has BL "range") (hg' : Has GL "list") (hb' : Has BL "list") (h : XE X cs a (.dat (.int (n : Nat)))) (hn : n ≤ 10000)
    (hs : starEach [a] X.env = (false, eval a X.env) :: starEach [] X.env := by rfl) (hs' : starEach [.Call (.Name "range" p) [a] [] pos] X.env = (false, eval (.Call (.Name "range" p) [a] [] pos) X.env) :: starEach [] X.env := by rfl) : XE X cs (.Call (.Name "list" p') [.Call (.Name "range" p) [a] [] pos] [] pos') (.own (numsD (List.range n))) := .mk fun en Q q =>
  ⟨_, pe_listRg nm.calm (nm.gl _ hg'.mem).1 (by rw [nm.hmg]; exact nm.bl _ hb'.mem) (prg_1 (nm.gl _ hg.mem).1 (by rw [nm.hmg]; exact nm.bl _ hb.mem) pe_v hs) hs', h en fun v G' H' x r => by
    cases r
    refine ⟨n, rfl, RgOk.of_le (by decide) (by omega) (by decide) (by omega), fun b hb => ?_⟩
    refine q _ G' _ (x.trans (Ext.heap x.gh (Evl.Ex.new hb))) ⟨b, _, rfl, Evl.fresh_back x.eh hb, Evl.fresh_back x.gh hb, upd_same, ?_⟩
    unfold rgV
    rw [show ((n : Int) - 0).toNat = n by omega]
    exact dpa_range _⟩
end
theorem canD_at {L : List Ride} {ts : List Trip} {i j : Nat} {t u : Trip} (h1 : ts[i]? = some t) (h2 : ts[j]? = some u) : canD L ts i j = inT L t u := by
  unfold canD
  rw [h1, h2]
theorem nums_int (l : List Nat) : numsD l = (l.map fun n => ((n : Nat) : Int)).map PyData.int := by
  unfold numsD
  rw [List.map_map]
  rfl
theorem sorted_nums {l : List Nat} {ms : List Int} (hp : ms.Perm (l.map fun n => ((n : Nat) : Int))) (hs : ms.Pairwise (· ≤ ·)) (hl : l.Pairwise (· ≤ ·)) : ms.map PyData.int = numsD l := by
  rw [nums_int]
  congr 1
  refine List.Perm.eq_of_pairwise (le := (· ≤ ·)) (fun a b _ _ h1 h2 => by omega) hs ?_ hp
  rw [List.pairwise_map]
  exact hl.imp fun h => by omega
theorem lists_snoc (A : List (List Nat)) (E : List Nat) : listsD (A ++ [E]) = listsD A ++ [.list (numsD E)] := by
  unfold listsD
  rw [List.map_append]
  rfl
theorem lists_inv {A : List (List Nat)} {j : Nat} {d : PyData} (hd : (listsD A)[j]? = some d) : ∃ D, A[j]? = some D ∧ PyData.list (numsD D) = d := by
  unfold listsD at hd
  rw [List.getElem?_map] at hd
  cases e : A[j]? with
  | none => rw [e] at hd; cases hd
  | some D => rw [e] at hd; cases hd; exact ⟨D, rfl, rfl⟩
open Dj (Best)
theorem look_spread {L : List Ride} {src : Str} {F : List Dj.Fd} (B : Best L src F) (hL : ∀ r ∈ L, 1 ≤ r.2.2) (z : Str) : lookD (spreadD F) (.inr z) = (dist L src z).map PyData.int := by
  rw [B.dist_eq hL]
  have e : ∀ F : List Dj.Fd, lookD (spreadD F) (.inr z) = (Dj.at? F z).map PyData.int := fun F => by
    induction F with
    | nil => rfl
    | cons f F ih =>
      unfold lookD spreadD Dj.at? at ih ⊢
      rw [List.map_cons, List.find?_cons, List.find?_cons]
      by_cases c : f.1 = z
      · simp [c]
      · have c' : ¬ (Sum.inr f.1 : Key) = .inr z := fun h => c (Sum.inr.inj h)
        simp only [c, c', decide_false]
        exact ih
  exact e F
structure AFar where
  L : List Ride
  src : Str
  F : List Dj.Fd
  B : Best L src F
  hL : ∀ r ∈ L, 1 ≤ r.2.2
  hl : L.length ≤ 200
abbrev cFar (K : PySem.W.Frag) : Sp := Con K (fun a : AFar => [.dat (.list (a.L.map rideD)), .dic (spreadD a.F), .dat (.str a.src)]) (fun _ c => c = .dat (.bool true))
structure APl where
  rs : List Ride
  ts : List Trip
  hr : ∀ r ∈ rs, OkR r
  ht : ∀ t ∈ ts, OkT t
  lr : rs.length ≤ 100
  lt : ts.length ≤ 100
  rows : List (List Nat)
  apart : List Nat
  ok : PlanOk (laid rs ts) ts rows apart
abbrev cDone (K : PySem.W.Frag) : Sp := Con K (fun a : APl => [.dat (.list ((laid a.rs a.ts).map rideD)), .dat (.list (a.rs.map rideD)), .dat (.list (a.ts.map tripD)), .dat (.list (listsD a.rows))]) (fun _ c => c = .dat (.bool true))
abbrev cApart8 (K : PySem.W.Frag) : Sp := Con K (fun a : APl => [.dat (.list ((laid a.rs a.ts).map rideD)), .dat (.list (a.rs.map rideD)), .dat (.list (a.ts.map tripD)), .dat (.list (numsD a.apart))]) (fun _ c => c = .dat (.bool true))
theorem plan_take {n : Nat} {rows : List (List Nat)} (hp : rows.flatten.Perm (List.range n)) (i : Nat) : ((rows.take i).flatten).length ≤ n := by
  have h1 : rows.flatten = (rows.take i).flatten ++ (rows.drop i).flatten := by rw [← List.flatten_append, List.take_append_drop]
  have h2 := congrArg List.length h1
  rw [hp.length_eq, List.length_range, List.length_append] at h2
  omega
theorem apart_len {L : List Ride} {ts : List Trip} {rows : List (List Nat)} {apart : List Nat} (ok : PlanOk L ts rows apart) : apart.length ≤ ts.length := by
  have := Dj.nodup_len (m := List.range ts.length) (ok.asc.imp fun h => Nat.ne_of_lt h) fun x hx => List.mem_range.mpr (ok.lt x hx)
  rw [List.length_range] at this
  exact this
section
variable {P : Program} {w : World} {K : PySem.W.Frag} {mg : Str → Option Value} {base : Heap}
theorem ok__law_far {f : Addr} {fd : FuncData} {k : Nat} (F : Fun K "_law_far" "_law_far" s__law_far f fd) (hb : Bl mg) : FnOk P w K mg base CX0 (k + 1) f fd ["_law_told", "_law_least", "_law_place"] (cFar K) := by
  refine fn_con F sc__law_far (fun _ => rfl) fun cdv A outer s H E hr a => ?_
  obtain ⟨nm, nd⟩ := nm__law_far (P := P) (w := w) (K := K) (mg := mg) (base := base) (outer := outer) (H := H) (E := E) hb hr
  obtain ⟨L, src, F, B, hL, hl⟩ := a
  show XSs _ [.dat (.list (L.map rideD)), .dic (spreadD F), .dat (.str src), .un] _ _
  have lk := look_spread B hL
  refine xs_cons (if_ (kk := false) (by walk_at "fz") ?_ (fun h => by cases h) fun _ => xs_nil ?_)
  · refine xt_pw (xw_or (x := false) (y := false) (XT.is (xt_not (xt_val (isiD nm (kvs := spreadD F) (xe_ldc (by walk_at "x")) (by walk_at "has") (by walk_at "has") (by walk_at "has") (by walk_at "has")))) rfl) fun _ => xw_or1 ?_)
    exact XT.is (xt_cmp (d := .int 0) (XE.is (xe_get1 nm (kd := .str src) (kvs := spreadD F) (xe_ldc (by walk_at "x")) (by walk_at "x") rfl) (by rw [lk, Dj.dist_src hL]; rfl)) (by walk_at "x") cd_nei) rfl
  refine xs_cons (for_ nm nd (ds := L.map rideD) (fun _ c => ∃ x, c = [.dat (.list (L.map rideD)), .dic (spreadD F), .dat (.str src), x]) (xi_list (by walk_at "x")) ⟨_, rfl⟩ ?_ ?_)
  · rintro i d _ hd ⟨x, rfl⟩
    obtain ⟨r, hr0, hr', rfl⟩ := map_get hd
    obtain ⟨r1, r2, r3⟩ := r
    refine gnm nm nd (by walk_at "upd") ?_
    show XSs _ [_, _, _, Cell.dat (.tuple [.str r1, .str r2, .int r3])] _ _
    refine xs_cons (if_ (by walk_at "fz") (xt_din nm (kd := .str r1) (kvs := spreadD F) (by walk_at "x") (xe_ldc (by walk_at "x")) rfl) (fun hk => ?_) fun _ => xs_nil (xs_nil ⟨_, rfl⟩))
    cases e : dist L src r1 with
    | none =>
      rw [lk, e] at hk
      cases hk
    | some m =>
      obtain ⟨m', e', hle⟩ := Dj.dist_road hL hr' e
      have e' : dist L src r2 = some m' := e'
      have hle : m' ≤ m + r3 := hle
      have l1 : lookD (spreadD F) (.inr r1) = some (.int m) := by rw [lk, e]; rfl
      have l2 : lookD (spreadD F) (.inr r2) = some (.int m') := by rw [lk, e']; rfl
      refine xs_cons (if_ (kk := false) (by walk_at "fz") ?_ (fun h => by cases h) fun _ => xs_nil (xs_nil (xs_nil ⟨_, rfl⟩)))
      refine xt_pw (xw_or (x := false) (y := false) (XT.is (xt_dnin nm (kd := .str r2) (kvs := spreadD F) (by walk_at "x") (xe_ldc (by walk_at "x")) rfl) (by rw [l2]; rfl)) fun _ => xw_or1 ?_)
      exact XT.is (xt_cmp (xe_dg nm (kvs := spreadD F) (kd := .str r2) (xe_ldc (by walk_at "x")) (by walk_at "x") rfl l2) (xe_bin (xe_dg nm (kvs := spreadD F) (kd := .str r1) (xe_ldc (by walk_at "x")) (by walk_at "x") rfl l1) (by walk_at "x") bd_add) cd_gt) (decide_eq_false (by omega))
  · rintro _ ⟨x, rfl⟩
    exact xs_cons (x_ret xe_bl rfl)
theorem ok__law_done {f : Addr} {fd : FuncData} {k : Nat} (F : Fun K "_law_done" "_law_done" s__law_done f fd) (hb : Bl mg) {CN : Addr} {j : Nat} (hj : j ≤ k) (CD : CalX P w K mg base "day" j (cDay K CN)) (CS : Cal P w K mg base "_law_stops" j (cStops K)) (CW : Cal P w K mg base "_law_walked" j (cWalked K)) :
    FnOk P w K mg base CX0 (k + 1) f fd ["_law_told", "_law_rides_here", "_law_trips_here", "_law_rows"] (cDone K) := by
  refine fn_con F sc__law_done (fun _ => rfl) fun cdv A outer s H E hr a => ?_
  obtain ⟨nm, nd⟩ := nm__law_done (P := P) (w := w) (K := K) (mg := mg) (base := base) (outer := outer) (H := H) (E := E) hb hr
  obtain ⟨rs, ts, hrs, hts, lr, lt, rows, apart, ok⟩ := a
  have hpos := laid_pos hrs hts
  have hok := laid_ok hrs hts
  have hlen := laid_len rs ts
  have hll : (listsD rows).length = rows.length := by unfold listsD; rw [List.length_map]
  have tk := plan_take ok.perm
  have h0 : Shp (.list []) 1 := shp_list fun d hd => by cases hd
  have hlt : ∀ row ∈ rows, ∀ i ∈ row, i < ts.length := fun row h i hi => List.mem_range.mp (ok.perm.mem_iff.mp (List.mem_flatten.mpr ⟨row, h, hi⟩))
  show XSs _ [.dat (.list ((laid rs ts).map rideD)), .dat (.list (rs.map rideD)), .dat (.list (ts.map tripD)), .dat (.list (listsD rows)), .un, .un, .un] _ _
  refine xs_cons (set nm nd (c := .dat (.list (numsD []))) (by walk_at "x") (by walk_at "upd") ?_)
  refine xs_cons (for_ nm nd (ds := listsD rows) (fun i c => ∃ x y, c = [.dat (.list ((laid rs ts).map rideD)), .dat (.list (rs.map rideD)), .dat (.list (ts.map tripD)), .dat (.list (listsD rows)), .dat (.list (numsD ((rows.take i).flatten))), x, y]) (xi_list (by walk_at "x")) ⟨_, _, rfl⟩ ?_ ?_)
  · rintro i d _ hd ⟨x, y, rfl⟩
    obtain ⟨row, er, rfl⟩ := lists_inv hd
    have hm := List.mem_of_getElem? er
    refine gnm nm nd (by walk_at "upd") ?_
    have hrow := hlt row hm
    have hrl := ok.rl row hm
    obtain ⟨done, hdone⟩ : ∃ done : List Trip, done = row.map fun n => (ts[n]?).getD (Str.empty, 0, Str.empty, 0) := ⟨_, rfl⟩
    have hdl : done.length = row.length := by rw [hdone, List.length_map]
    have hdr : ∀ (i n : Nat), row[i]? = some n → ts[n]? = done[i]? := fun i n h => by
      have hn := hrow n (List.mem_of_getElem? h)
      rw [hdone, List.getElem?_map, h, List.getElem?_eq_getElem hn]
      simp [List.getElem?_eq_getElem hn]
    obtain ⟨ad, had⟩ : ∃ ad : ADay, ad.b.rs = rs ∧ ad.b.ts = ts ∧ ad.row = row ∧ ad.done = done := ⟨⟨⟨rs, ts, hrs, hts, by omega, by omega⟩, row, done, hdl, hdr, hrow, by show rs.length ≤ 100; omega, by show ts.length ≤ 100; omega, by omega⟩, rfl, rfl, rfl, rfl⟩
    obtain ⟨ea, eb, ec, ed⟩ := had
    have hN : Shp (.list (numsD row)) 1 := nums_shp row
    have hx : ∀ v : Value, ¬ (LateIn (laid ad.b.rs ad.b.ts) ad.done ∧ v = .ref CN) := fun v h => by
      rw [ea, eb, ed] at h
      obtain ⟨⟨p, t, u, h1, h2, h3⟩, _⟩ := h
      have hp1 := (List.getElem?_eq_some_iff.mp h1).1
      have hp2 := (List.getElem?_eq_some_iff.mp h2).1
      have q1 : row[p]? = some row[p] := List.getElem?_eq_getElem (by omega)
      have q2 : row[p + 1]? = some row[p + 1] := List.getElem?_eq_getElem (by omega)
      have := ok.adj row hm p _ _ q1 q2
      rw [canD_at ((hdr p _ q1).trans h1) ((hdr (p + 1) _ q2).trans h2), h3] at this
      cases this
    refine xs_cons (setR nm nd ((calX nm takes0 CD hj (by walk_at "has") ad (by
      show XA _ _ _ [.dat (.list (ad.b.rs.map rideD)), .dat (.list (ad.b.ts.map tripD)), .dat (.list (numsD ad.row))]
      rw [ea, eb, ec]
      walk_at "x")).calm hx) (by walk_at "upd") ?_)
    rintro _ ⟨fp, hp, rfl⟩
    rw [ea, eb, ed] at hp
    rw [ed]
    refine ⟨_, by walk_at "upd", ?_⟩
    have hSl := stopsN_len hp (Nat.le_refl _) (Nat.le_refl _)
    have hSl2 : done.length * ((laid rs ts).length + 2) ≤ 100 * 202 := Nat.mul_le_mul (by omega) (by omega)
    refine xs_cons (if_ (kk := false) (by walk_at "fz") ?_ (fun h => by cases h) fun _ => xs_nil ?_)
    · refine xt_pw (xw_or (x := false) (y := false) (XT.is (xt_not (xt_val (calE nm CS hj (by walk_at "has") (stopsN fp done done.length) (by walk_at "x")))) rfl) fun _ => xw_or (x := false) (y := false) (XT.is (xt_cmp (by walk_at "x") (by walk_at "x") (cd_eqD nm.hu hN.shaped h0.shaped)) (eqv_nil fun z => ok.ne row hm (List.map_eq_nil_iff.mp z))) fun _ => xw_or1 ?_)
      exact XT.is (xt_not (xt_val (calE nm CW hj (by walk_at "has") ⟨laid rs ts, hok, hpos, by omega, ts, hts, row, done, hdl, hdr, by omega, fp, hp⟩ (show XA _ _ _ [.dat (.list ((laid rs ts).map rideD)), .dat (.list (ts.map tripD)), .dat (.list (numsD row)), .dat (.list ((stopsN fp done done.length).map stopD))] from by walk_at "x")))) rfl
    exact xs_cons (set nm nd (c := .dat (.list (numsD ((rows.take (i + 1)).flatten)))) (xe_fr (c := .own (numsD ((rows.take (i + 1)).flatten))) (XE.is (xe_bin (d := .list (numsD ((rows.take i).flatten))) (e := .list (numsD row)) (by walk_at "x") (by walk_at "x") (bd_cat (by rw [numsD_len, numsD_len]; have := tk i; omega))) (by rw [← numsD_app, List.take_add_one, er, List.flatten_append]; simp))) (by walk_at "upd") (xs_nil ⟨_, _, rfl⟩))
  · rintro _ ⟨x, y, rfl⟩
    rw [hll, List.take_length]
    have hF : Shp (.list (numsD (List.range ts.length))) 1 := nums_shp _
    refine xs_cons (x_ret (c := .dat (.bool true)) (sc (by walk_at "fz") (XE.is (xe_cmp (xe_fr (c := .own (numsD (List.range ts.length))) ((xep_sortedI nm (ns := rows.flatten.map fun n => ((n : Nat) : Int)) (by walk_at "has") (by walk_at "has") (XE.is (a := .dat (.list (numsD rows.flatten))) (by walk_at "x") (by rw [← nums_int]))).to (fun c h => by
      obtain ⟨ms, hp, hs, e⟩ := h
      rw [e, sorted_nums (l := List.range ts.length) (hp.trans (ok.perm.map _)) hs (List.pairwise_lt_range.imp fun h => Nat.le_of_lt h)]))) (xe_fr (c := .own _) (xe_listRg nm (by walk_at "has") (by walk_at "has") (by walk_at "has") (by walk_at "has") (XE.is (by walk_at "x") (by rw [List.length_map])) (by omega))) (cd_eqD nm.hu hF.shaped hF.shaped)) (by rw [eqv_same hF]))) rfl)
theorem ok__law_apart {f : Addr} {fd : FuncData} {k : Nat} (F : Fun K "_law_apart" "_law_apart" s__law_apart f fd) (hb : Bl mg) {j : Nat} (hj : j ≤ k) (CS : Cal P w K mg base "spread" j (cSpread K)) (CF : Cal P w K mg base "_law_far" j (cFar K)) :
    FnOk P w K mg base CX0 (k + 1) f fd ["_law_told", "_law_rides_here", "_law_trips_here", "_law_apart_here"] (cApart8 K) := by
  refine fn_con F sc__law_apart (fun _ => rfl) fun cdv A outer s H E hr a => ?_
  obtain ⟨nm, nd⟩ := nm__law_apart (P := P) (w := w) (K := K) (mg := mg) (base := base) (outer := outer) (H := H) (E := E) hb hr
  obtain ⟨rs, ts, hrs, hts, lr, lt, rows, apart, ok⟩ := a
  have hpos := laid_pos hrs hts
  have hlen := laid_len rs ts
  have tat : ∀ i ∈ apart, ∃ t, t ∈ ts ∧ ts[i]? = some t ∧ atI (ts.map tripD) (i : Int) = some (tripD t) := fun i hi => ⟨ts[i]'(ok.lt i hi), List.getElem_mem _, List.getElem?_eq_getElem (ok.lt i hi), atI_nat' (n := i) rfl (by rw [List.getElem?_map, List.getElem?_eq_getElem (ok.lt i hi)]; rfl)⟩
  show XSs _ [.dat (.list ((laid rs ts).map rideD)), .dat (.list (rs.map rideD)), .dat (.list (ts.map tripD)), .dat (.list (numsD apart)), .un, .un, .un, .un] _ _
  refine xs_cons (for_ nm nd (ds := numsD apart) (fun _ c => ∃ a1 a2 a3 a4, c = [.dat (.list ((laid rs ts).map rideD)), .dat (.list (rs.map rideD)), .dat (.list (ts.map tripD)), .dat (.list (numsD apart)), a1, a2, a3, a4]) (xi_list (by walk_at "x")) ⟨_, _, _, _, rfl⟩ ?_ ?_)
  · rintro i d _ hd ⟨a1, a2, a3, a4, rfl⟩
    obtain ⟨o, ho, rfl⟩ := numsD_inv hd
    have mo := List.mem_of_getElem? ho
    obtain ⟨t, mt, et, at1⟩ := tat o mo
    have okt := okT_iff.mp (hts t mt)
    refine gnm nm nd (by walk_at "upd") ?_
    refine xs_cons (setF nm nd (cal nm CS hj (by walk_at "has") ⟨⟨rs, ts, hrs, hts, by omega, by omega⟩, t.2.2.1, okt.2.1, by show rs.length ≤ 100; omega, by show ts.length ≤ 100; omega⟩ (show XA _ _ _ [.dat (.list (rs.map rideD)), .dat (.list (ts.map tripD)), .dat (.str t.2.2.1)] from xa_c (by walk_at "x") rfl (xa_c (by walk_at "x") rfl (xa_c (xe_ix (d := tripD t) (e := .int 2) (xe_ix (d := .list (ts.map tripD)) (e := .int (o : Nat)) (by walk_at "x") (by walk_at "x") (id_l at1)) (by walk_at "x") (by unfold tripD; walk_at "id")) rfl xa_nil)))) (by walk_at "upd") (by rintro _ ⟨_, rfl, _⟩ z; cases z) ?_)
    rintro _ ⟨F, rfl, B⟩
    have B : Best (laid rs ts) t.2.2.1 F := B
    show ∃ cs', Upd _ _ _ (.dic (spreadD F)) cs' ∧ _
    refine ⟨_, by walk_at "upd", ?_⟩
    have lk := look_spread B hpos
    refine xs_cons (if_ (kk := false) (by walk_at "fz") (XT.is (xt_not (xt_val (calE nm CF hj (by walk_at "has") ⟨laid rs ts, t.2.2.1, F, B, hpos, by omega⟩ (show XA _ _ _ [.dat (.list ((laid rs ts).map rideD)), .dic (spreadD F), .dat (.str t.2.2.1)] from xa_c (by walk_at "x") rfl (xa_c (by walk_at "x") rfl (xa_c (xe_ix (d := tripD t) (e := .int 2) (xe_ix (d := .list (ts.map tripD)) (e := .int (o : Nat)) (by walk_at "x") (by walk_at "x") (id_l at1)) (by walk_at "x") (by unfold tripD; walk_at "id")) rfl xa_nil)))))) rfl) (fun h => by cases h) fun _ => xs_nil ?_)
    refine xs_cons (for_ nm nd (ds := numsD apart) (fun _ c => ∃ a3 a4, c = [.dat (.list ((laid rs ts).map rideD)), .dat (.list (rs.map rideD)), .dat (.list (ts.map tripD)), .dat (.list (numsD apart)), .dat (.int (o : Nat)), .dic (spreadD F), a3, a4]) (xi_list (by walk_at "x")) ⟨_, _, rfl⟩ ?_ ?_)
    · rintro i2 d _ hd2 ⟨a3, a4, rfl⟩
      obtain ⟨o2, ho2, rfl⟩ := numsD_inv hd2
      have mo2 := List.mem_of_getElem? ho2
      obtain ⟨u, mu, eu, au⟩ := tat o2 mo2
      have hc := ok.anti o mo o2 mo2
      rw [canD_at et eu] at hc
      refine gnm nm nd (by walk_at "upd") ?_
      refine xs_cons (set nm nd (c := .dat (tripD u)) (xe_ix (d := .list (ts.map tripD)) (e := .int (o2 : Nat)) (by walk_at "x") (by walk_at "x") (id_l au)) (by walk_at "upd") ?_)
      refine xs_cons (if_ (kk := false) (by walk_at "fz") ?_ (fun h => by cases h) fun _ => xs_nil (xs_nil ⟨_, _, rfl⟩))
      cases e : dist (laid rs ts) t.2.2.1 u.1 with
      | none => exact xt_andF (XT.is (xt_din nm (kd := .str u.1) (kvs := spreadD F) (xe_ix (d := tripD u) (e := .int 0) (by walk_at "x") (by walk_at "x") (by unfold tripD; walk_at "id")) (xe_ldc (by walk_at "x")) rfl) (by rw [lk, e]; rfl))
      | some m =>
        have l1 : lookD (spreadD F) (.inr u.1) = some (.int m) := by rw [lk, e]; rfl
        have hn : ¬ t.2.2.2 + m ≤ u.2.1 := fun z => by
          have := inT_iff.mpr ⟨m, e, z⟩
          rw [hc] at this
          cases this
        refine xt_pw (xw_and (x := true) (y := false) (XT.is (xt_din nm (kd := .str u.1) (kvs := spreadD F) (xe_ix (d := tripD u) (e := .int 0) (by walk_at "x") (by walk_at "x") (by unfold tripD; walk_at "id")) (xe_ldc (by walk_at "x")) rfl) (by rw [l1]; rfl)) fun _ => xw_and1 ?_)
        exact XT.is (xt_cmp (xe_bin (xe_ix (d := tripD t) (e := .int 3) (xe_ix (d := .list (ts.map tripD)) (e := .int (o : Nat)) (by walk_at "x") (by walk_at "x") (id_l at1)) (by walk_at "x") (by unfold tripD; walk_at "id")) (xe_dg nm (kvs := spreadD F) (kd := .str u.1) (xe_ldc (by walk_at "x")) (xe_ix (d := tripD u) (e := .int 0) (by walk_at "x") (by walk_at "x") (by unfold tripD; walk_at "id")) rfl l1) bd_add) (xe_ix (d := tripD u) (e := .int 1) (by walk_at "x") (by walk_at "x") (by unfold tripD; walk_at "id")) cd_le) (decide_eq_false hn)
    · rintro _ ⟨a3, a4, rfl⟩
      exact xs_nil ⟨_, _, _, _, rfl⟩
  · rintro _ ⟨a1, a2, a3, a4, rfl⟩
    exact xs_cons (x_ret xe_bl rfl)
end
end K8

set_option maxRecDepth 100000
set_option maxHeartbeats 4000000
namespace K8
open PySem PySem.Spec PyProof.Rows L2 Fw Bus
open Dj (Best dist)
local macro_rules | `(tactic| walk_at "sel") => `(tactic| repeat (first | with_reducible apply Sel.z | apply Sel.s))
local macro_rules | `(tactic| walk_at "upd") => `(tactic| repeat (first | with_reducible apply Upd.z | apply Upd.s))
local macro_rules | `(tactic| walk_at "has") => `(tactic| repeat (first | with_reducible apply Has.z | apply Has.s))
local macro_rules | `(tactic| walk_at "fz") => `(tactic| repeat (first | exact Fz.nil | apply Fz.un | apply Fz.dat | apply Fz.scr | apply Fz.rng | apply Fz.dic | apply Fz.ldc | apply Fz.own | apply Fz.odi | apply Fz.any))
local macro_rules | `(tactic| walk_at "bi") => `(tactic| first | with_reducible exact BI.len | with_reducible exact BI.max | with_reducible exact BI.min | with_reducible exact BI.all | with_reducible exact BI.any | with_reducible exact BI.sorted | with_reducible exact BI.sum | with_reducible exact BI.abs)
local macro_rules | `(tactic| walk_at "bt") => `(tactic| first | with_reducible exact BT.list | with_reducible exact BT.tuple | with_reducible exact BT.str | with_reducible exact BT.int | with_reducible exact BT.bool | with_reducible exact BT.dict)
local macro_rules | `(tactic| walk_at "bd") => `(tactic| first | exact bd_add | exact bd_sub | (apply bd_mod <;> try decide) | (apply bd_fdiv <;> try decide) | apply bd_adds | apply bd_muls | apply bd_mul | apply bd_cat)
local macro_rules | `(tactic| walk_at "cd") => `(tactic| first | exact cd_lt | exact cd_le | exact cd_gt | exact cd_ge | exact cd_eqi | exact cd_nei | exact cd_eqs | exact cd_nes | exact cd_inSign | apply cd_eqD (Nm.hu (by assumption)) | apply cd_neD (Nm.hu (by assumption)) | apply cd_inD (Nm.hu5 (by assumption)) | apply cd_notInD (Nm.hu5 (by assumption)))
local macro_rules | `(tactic| walk_at "id") => `(tactic| first | (apply id_l <;> try first | assumption | rfl) | (apply id_t <;> try first | assumption | rfl) | (apply id_s <;> try first | assumption | (show Str.length _ ≤ sizeLine; decide +kernel)))
local macro_rules | `(tactic| walk_at "cl") => `(tactic| first | exact cl_lenL | exact cl_lenT | apply cl_lenS | exact cl_list | exact cl_max2 (Nm.calm (by assumption)) | exact cl_all (Nm.calm (by assumption)))
local macro_rules | `(tactic| walk_at "x") => `(tactic| first
  | exact xe_int | exact xe_str | exact xe_bl | exact xe_non
  | (apply ve; · assumption
     · walk_at "sel")
  | (apply ve'; · assumption
     · walk_at "sel"
     all_goals (first | rfl | (intro z; cases z; done)))
  | (apply gle_int; · assumption
     · walk_at "has"
     · with_reducible assumption)
  | (apply gle_str; · assumption
     · walk_at "has"
     · with_reducible assumption)
  | (show Nm _ _ _ _ _ _ _ _ _ _; assumption)
  | (apply xe_bin <;> try walk_at "x") | walk_at "bd"
  | (apply xt_cmp <;> try walk_at "x") | (apply xe_cmp <;> try walk_at "x") | walk_at "cd"
  | (show behindInMarks _ _ = false; first | exact nomark _ | rfl)
  | (apply xt_not <;> try walk_at "x") | (apply xe_not <;> try walk_at "x")
  | (apply xe_unop <;> try walk_at "x") | exact ud_neg
  | (apply xt_pw; apply xw_and <;> try walk_at "x") | (apply xt_pw; apply xw_or <;> try walk_at "x")
  | (apply xw_and <;> try walk_at "x") | (apply xw_or <;> try walk_at "x") | (apply xw_and1 <;> try walk_at "x") | (apply xw_or1 <;> try walk_at "x")
  | (apply xe_and <;> try walk_at "x") | (apply xe_or <;> try walk_at "x") | (apply xe_one <;> try walk_at "x")
  | (apply cisi; · assumption
     · walk_at "bt"
     · walk_at "has"
     · walk_at "has"
     · walk_at "has"
     · walk_at "has"
     all_goals try walk_at "x")
  | (apply cbi; · assumption
     · walk_at "bi"
     · walk_at "has"
     · walk_at "has"
     all_goals try walk_at "x")
  | (apply cty; · assumption
     · walk_at "bt"
     · walk_at "has"
     · walk_at "has"
     all_goals walk_at "x")
  | (apply xe_fr (c := .own _)
     (apply cty; · assumption
      · walk_at "bt"
      · walk_at "has"
      · walk_at "has"
      all_goals walk_at "x"))
  | (apply cty; · assumption
     · walk_at "bt"
     · walk_at "has"
     · walk_at "has"
     all_goals try walk_at "x")
  | walk_at "cl"
  | exact xd_nil | (apply xd_cons <;> try walk_at "x") | exact xa_nil | (apply xa_c <;> try walk_at "x")
  | (apply xe_list <;> try walk_at "x") | (apply xe_tup <;> try walk_at "x")
  | (apply xe_ix <;> try walk_at "x") | walk_at "id"
  | (show PlainIx _; exact fun _ _ => rfl)
  | (apply xt_chainI op_le op_le <;> try walk_at "x") | (apply xt_chainI op_le op_lt <;> try walk_at "x") | (apply xe_chainI op_le op_le <;> try walk_at "x") | (apply xe_chainI op_le op_lt <;> try walk_at "x")
  | (apply xt_val <;> try walk_at "x")
  | (apply xe_fr (c := .own _) <;> try walk_at "x")
  | (show List.length _ ≤ 100000; exact Nat.le_of_ble_eq_true rfl)
  | (show lastMarks _ _ = false; with_unfolding_all rfl)
  | (show _ = _; rfl)
  | (intro _; walk_at "x"))
structure AScr where
  ns : List Int
/-- what the law makes: places, rides and trips that are such -/
def builtD (zs : List Str) (rs : List Ride) (ts : List Trip) : PyData := .tuple [.list (zs.map .str), .list (rs.map rideD), .list (ts.map tripD)]
def Built (nz : Nat) (zs : List Str) (rs : List Ride) (ts : List Trip) : Prop := OkNames zs nz ∧ 1 ≤ nz ∧ nz ≤ 12 ∧ rs.length ≤ 11 ∧ (∀ r ∈ rs, OkR r) ∧ ts.length ≤ 10 ∧ ∀ t ∈ ts, OkT t
abbrev cBuilt (K : PySem.W.Frag) : Sp := Con K (fun a : AScr => [.scr a.ns]) (fun _ c => ∃ nz zs rs ts, Built nz zs rs ts ∧ c = .dat (builtD zs rs ts))
section
variable {P : Program} {w : World} {K : PySem.W.Frag} {mg : Str → Option Value} {base : Heap}
theorem ok__law_trips {f : Addr} {fd : FuncData} {k : Nat} (F : Fun K "_law_trips" "_law_trips" s__law_trips f fd) (hb : Bl mg) {j : Nat} (hj : j ≤ k) (CC : Cal P w K mg base "_law_cell_at" j (cCell K)) : FnOk P w K mg base CX0 (k + 1) f fd ["_law_script", "_law_place", "_law_names_here", "_law_size"] (cMkTrips K) := by
  refine fn_con F sc__law_trips (fun _ => rfl) fun cdv A outer s H E hr a => ?_
  obtain ⟨nm, nd⟩ := nm__law_trips (P := P) (w := w) (K := K) (mg := mg) (base := base) (outer := outer) (H := H) (E := E) hb hr
  obtain ⟨ns, p, hp, zs, nz, hz, h1, n, hn⟩ := a
  show XSs _ [.scr ns, .dat (.int p), .dat (.list (zs.map .str)), .dat (.int n), .un, .un, .un, .un, .un, .un, .un] _ _
  refine xs_cons (set nm nd (c := .own []) (by walk_at "x") (by walk_at "upd") ?_)
  refine xs_cons (for_ nm nd (ds := rangeD 0 (n : Int).toNat) (fun i cs => ∃ (ts : List Trip) (x y u v z t : Cell), ts.length ≤ i ∧ (∀ t ∈ ts, OkT t) ∧
      cs = [.scr ns, .dat (.int p), .dat (.list (zs.map .str)), .dat (.int n), .own (ts.map tripD), x, y, u, v, z, t]) (rg1 nm (by walk_at "has") (by walk_at "has") (by walk_at "x") (by omega)) ⟨[], _, _, _, _, _, _, Nat.le_refl 0, fun r h => (by cases h), rfl⟩ ?_ ?_)
  · rintro i d _ hd ⟨ts, x, y, u, v, z, t, hl, hts, rfl⟩
    obtain ⟨hi, rfl⟩ := rangeD_inv hd
    refine gnm nm nd (by walk_at "upd") ?_
    rw [show (0 : Int) + (i : Int) = (i : Int) by omega]
    refine xs_cons (set nm nd (calE nm CC hj (by walk_at "has") ⟨ns, p + i, by omega⟩ (by walk_at "x")) (by walk_at "upd") ?_)
    obtain ⟨c, hc⟩ : ∃ c, c = cellAt ns (p + i) := ⟨_, rfl⟩
    rw [← hc]
    have lz : ((zs.map PyData.str).length : Int) = nz := by rw [List.length_map, hz.1]
    obtain ⟨o0, o1⟩ := fmod_lt c (n := (nz : Int)) (by omega)
    obtain ⟨p0, p1⟩ := fmod_lt (c.fdiv 13) (n := (nz : Int)) (by omega)
    obtain ⟨z1, a1, g1, e1⟩ := ok_idx hz o0 o1
    obtain ⟨z2, a2, g2, e2⟩ := ok_idx hz p0 p1
    rw [← lz] at a1 a2
    refine xs_cons (set nm nd (c := .dat (.str z1)) ?_ (by walk_at "upd") ?_)
    · walk_at "x"
      omega
    refine xs_cons (set nm nd (c := .dat (.str z2)) ?_ (by walk_at "upd") ?_)
    · walk_at "x"
      omega
    refine xs_cons (set nm nd (by walk_at "x") (by walk_at "upd") ?_)
    refine xs_cons (set nm nd (by walk_at "x") (by walk_at "upd") ?_)
    have b1 := fmod_lt (c.fdiv 64) (n := 120) (by decide)
    have b2 := fmod_lt (c.fdiv 7680) (n := 25) (by decide)
    have b3 := fmod_lt (c.fdiv 1024) (n := 99000) (by decide)
    have b4 := fmod_lt (c.fdiv 1024) (n := 999) (by decide)
    refine xs_cut (fun cs => ∃ b m : Int, 0 ≤ b ∧ 1 ≤ m ∧ b + m ≤ 99999 ∧ (b ≤ 119 ∨ decide ((c.fdiv 64).fmod 16 = 1) = true) ∧ cs = [.scr ns, .dat (.int p), .dat (.list (zs.map .str)), .dat (.int n), .own (ts.map tripD), .dat (.int i), .dat (.int c), .dat (.str z1), .dat (.str z2), .dat (.int b), .dat (.int m)]) (if_ (by walk_at "fz") (by walk_at "x") (fun hk => ?_) fun _ => ?_) ?_
    · refine xs_cons (set nm nd (by walk_at "x") (by walk_at "upd") ?_)
      refine xs_cons (set nm nd (by walk_at "x") (by walk_at "upd") ?_)
      exact xs_nil ⟨_, _, by omega, by omega, by omega, .inr hk, rfl⟩
    · exact xs_nil ⟨_, _, by omega, by omega, by omega, .inl (by omega), rfl⟩
    rintro _ ⟨b, m, m0, m1, m2, m3, rfl⟩
    refine xs_cut (fun cs => ∃ b m : Int, 0 ≤ b ∧ 1 ≤ m ∧ b + m ≤ 99999 ∧ cs = [.scr ns, .dat (.int p), .dat (.list (zs.map .str)), .dat (.int n), .own (ts.map tripD), .dat (.int i), .dat (.int c), .dat (.str z1), .dat (.str z2), .dat (.int b), .dat (.int m)]) (if_ (by walk_at "fz") (by walk_at "x") (fun hk => ?_) fun _ => ?_) ?_
    · refine xs_cons (set nm nd (by walk_at "x") (by walk_at "upd") ?_)
      have hb : b ≤ 119 := by
        rcases m3 with h | h
        · exact h
        · have q1 := of_decide_eq_true h
          have q2 := of_decide_eq_true hk
          omega
      exact xs_nil ⟨_, _, by omega, by omega, by omega, rfl⟩
    · exact xs_nil ⟨_, _, by omega, by omega, by omega, rfl⟩
    rintro _ ⟨b, m, m0, m1, m2, rfl⟩
    refine xs_cons (app nm (d := tripD (z1, b, z2, b + m)) (by walk_at "sel") (by walk_at "upd") (by walk_at "x") (by rw [List.length_map]; omega) ?_)
    refine xs_nil ⟨ts ++ [(z1, b, z2, b + m)], _, _, _, _, _, _, by rw [List.length_append]; exact Nat.add_le_add hl (Nat.le_refl 1), fun r hr => ?_, by rw [List.map_append]; rfl⟩
    rcases List.mem_append.mp hr with hr | hr
    · exact hts r hr
    · rw [List.mem_singleton.mp hr]
      exact okT_iff.mpr ⟨hz.2.2 _ e1, hz.2.2 _ e2, m0, by show b < b + m; omega, m2⟩
  · rintro _ ⟨ts, x, y, u, v, z, t, hl, hts, rfl⟩
    rw [rangeD_len] at hl
    refine xs_cons (retN nm (c := .own (ts.map tripD)) (by walk_at "sel") ?_)
    exact ⟨ts, (by show ts.length ≤ n; omega), hts, rfl⟩
theorem ok__law_roads {f : Addr} {fd : FuncData} {k : Nat} (F : Fun K "_law_roads" "_law_roads" s__law_roads f fd) (hb : Bl mg) : FnOk P w K mg base CX0 (k + 1) f fd ["_law_rides_here", "_law_trips_here"] (cRoads K) := by
  refine fn_con F sc__law_roads (fun _ => rfl) fun cdv A outer s H E hr a => ?_
  obtain ⟨nm, nd⟩ := nm__law_roads (P := P) (w := w) (K := K) (mg := mg) (base := base) (outer := outer) (H := H) (E := E) hb hr
  obtain ⟨rs, ts, hR, hT, lr, lt⟩ := a
  show XSs _ [.dat (.list (rs.map rideD)), .dat (.list (ts.map tripD)), .un, .un] _ _
  refine xs_cons (set nm nd (c := .own (rs.map rideD)) (by walk_at "x") (by walk_at "upd") ?_)
  refine xs_cons (for_ nm nd (ds := ts.map tripD) (fun i c => ∃ x, c = [.dat (.list (rs.map rideD)), .dat (.list (ts.map tripD)), .own ((laid rs (ts.take i)).map rideD), x]) (xi_list (by walk_at "x")) ⟨.un, by simp [laid]⟩ ?_ ?_)
  · rintro i d _ hd ⟨x, rfl⟩
    obtain ⟨t, ht, ht', rfl⟩ := map_get hd
    refine gnm nm nd (by walk_at "upd") ?_
    show XSs _ [_, _, _, Cell.dat (.tuple [.str t.1, .int t.2.1, .str t.2.2.1, .int t.2.2.2])] _ _
    refine xs_cons (if_ (by walk_at "fz") (by walk_at "x") (fun hk => ?_) fun hk => ?_)
    · have hne : ¬ t.1 = t.2.2.1 := by simpa using hk
      refine xs_cons (app nm (d := rideD (t.1, t.2.2.1, t.2.2.2 - t.2.1)) (by walk_at "sel") (by walk_at "upd") (by walk_at "x") ?_ ?_)
      · rw [List.length_map]
        have h1 := laid_len rs (ts.take i)
        have h2 := List.length_take_le' i ts
        omega
      · refine xs_nil (xs_nil ?_)
        show ∃ x, _ = [_, _, Cell.own ((laid rs (ts.take (i + 1))).map rideD), x]
        rw [laid_take ht, if_neg hne, List.map_append]
        exact ⟨_, rfl⟩
    · have he : t.1 = t.2.2.1 := by simpa using hk
      refine xs_nil (xs_nil ?_)
      show ∃ x, _ = [_, _, Cell.own ((laid rs (ts.take (i + 1))).map rideD), x]
      rw [laid_take ht, if_pos he]
      exact ⟨_, rfl⟩
  · rintro _ ⟨x, rfl⟩
    refine xs_cons (retN nm (c := .own ((laid rs ts).map rideD)) ?_ rfl)
    rw [List.length_map, laid_all]
    walk_at "sel"
end
end K8

set_option maxRecDepth 100000
set_option maxHeartbeats 4000000
namespace K8
open PySem PySem.Spec PyProof.Rows L2 Fw Bus
open Dj (Best dist)
local macro_rules | `(tactic| walk_at "sel") => `(tactic| repeat (first | with_reducible apply Sel.z | apply Sel.s))
local macro_rules | `(tactic| walk_at "upd") => `(tactic| repeat (first | with_reducible apply Upd.z | apply Upd.s))
local macro_rules | `(tactic| walk_at "has") => `(tactic| repeat (first | with_reducible apply Has.z | apply Has.s))
local macro_rules | `(tactic| walk_at "fz") => `(tactic| repeat (first | exact Fz.nil | apply Fz.un | apply Fz.dat | apply Fz.scr | apply Fz.rng | apply Fz.dic | apply Fz.ldc | apply Fz.own | apply Fz.odi | apply Fz.any))
local macro_rules | `(tactic| walk_at "bi") => `(tactic| first | with_reducible exact BI.len | with_reducible exact BI.max | with_reducible exact BI.min | with_reducible exact BI.all | with_reducible exact BI.any | with_reducible exact BI.sorted | with_reducible exact BI.sum | with_reducible exact BI.abs)
local macro_rules | `(tactic| walk_at "bt") => `(tactic| first | with_reducible exact BT.list | with_reducible exact BT.tuple | with_reducible exact BT.str | with_reducible exact BT.int | with_reducible exact BT.bool | with_reducible exact BT.dict)
local macro_rules | `(tactic| walk_at "bd") => `(tactic| first | exact bd_add | exact bd_sub | (apply bd_mod <;> try decide) | (apply bd_fdiv <;> try decide) | apply bd_adds | apply bd_muls | apply bd_mul | apply bd_cat)
local macro_rules | `(tactic| walk_at "cd") => `(tactic| first | exact cd_lt | exact cd_le | exact cd_gt | exact cd_ge | exact cd_eqi | exact cd_nei | exact cd_eqs | exact cd_nes | exact cd_inSign | apply cd_eqD (Nm.hu (by assumption)) | apply cd_neD (Nm.hu (by assumption)) | apply cd_inD (Nm.hu5 (by assumption)) | apply cd_notInD (Nm.hu5 (by assumption)))
local macro_rules | `(tactic| walk_at "id") => `(tactic| first | (apply id_l <;> try first | assumption | rfl) | (apply id_t <;> try first | assumption | rfl) | (apply id_s <;> try first | assumption | (show Str.length _ ≤ sizeLine; decide +kernel)))
local macro_rules | `(tactic| walk_at "cl") => `(tactic| first | exact cl_lenL | exact cl_lenT | apply cl_lenS | exact cl_list | exact cl_max2 (Nm.calm (by assumption)) | exact cl_all (Nm.calm (by assumption)))
local macro_rules | `(tactic| walk_at "x") => `(tactic| first
  | exact xe_int | exact xe_str | exact xe_bl | exact xe_non
  | (apply ve; · assumption
     · walk_at "sel")
  | (apply ve'; · assumption
     · walk_at "sel"
     all_goals (first | rfl | (intro z; cases z; done)))
  | (apply gle_int; · assumption
     · walk_at "has"
     · with_reducible assumption)
  | (apply gle_str; · assumption
     · walk_at "has"
     · with_reducible assumption)
  | (show Nm _ _ _ _ _ _ _ _ _ _; assumption)
  | (apply xe_bin <;> try walk_at "x") | walk_at "bd"
  | (apply xt_cmp <;> try walk_at "x") | (apply xe_cmp <;> try walk_at "x") | walk_at "cd"
  | (show behindInMarks _ _ = false; first | exact nomark _ | rfl)
  | (apply xt_not <;> try walk_at "x") | (apply xe_not <;> try walk_at "x")
  | (apply xe_unop <;> try walk_at "x") | exact ud_neg
  | (apply xt_pw; apply xw_and <;> try walk_at "x") | (apply xt_pw; apply xw_or <;> try walk_at "x")
  | (apply xw_and <;> try walk_at "x") | (apply xw_or <;> try walk_at "x") | (apply xw_and1 <;> try walk_at "x") | (apply xw_or1 <;> try walk_at "x")
  | (apply xe_and <;> try walk_at "x") | (apply xe_or <;> try walk_at "x") | (apply xe_one <;> try walk_at "x")
  | (apply cisi; · assumption
     · walk_at "bt"
     · walk_at "has"
     · walk_at "has"
     · walk_at "has"
     · walk_at "has"
     all_goals try walk_at "x")
  | (apply cbi; · assumption
     · walk_at "bi"
     · walk_at "has"
     · walk_at "has"
     all_goals try walk_at "x")
  | (apply cty; · assumption
     · walk_at "bt"
     · walk_at "has"
     · walk_at "has"
     all_goals walk_at "x")
  | (apply xe_fr (c := .own _)
     (apply cty; · assumption
      · walk_at "bt"
      · walk_at "has"
      · walk_at "has"
      all_goals walk_at "x"))
  | (apply cty; · assumption
     · walk_at "bt"
     · walk_at "has"
     · walk_at "has"
     all_goals try walk_at "x")
  | walk_at "cl"
  | exact xd_nil | (apply xd_cons <;> try walk_at "x") | exact xa_nil | (apply xa_c <;> try walk_at "x")
  | (apply xe_list <;> try walk_at "x") | (apply xe_tup <;> try walk_at "x")
  | (apply xe_ix <;> try walk_at "x") | walk_at "id"
  | (show PlainIx _; exact fun _ _ => rfl)
  | (apply xt_chainI op_le op_le <;> try walk_at "x") | (apply xt_chainI op_le op_lt <;> try walk_at "x") | (apply xe_chainI op_le op_le <;> try walk_at "x") | (apply xe_chainI op_le op_lt <;> try walk_at "x")
  | (apply xt_val <;> try walk_at "x")
  | (apply xe_fr (c := .own _) <;> try walk_at "x")
  | (show List.length _ ≤ 100000; exact Nat.le_of_ble_eq_true rfl)
  | (show lastMarks _ _ = false; with_unfolding_all rfl)
  | (show _ = _; rfl)
  | (intro _; walk_at "x"))
section
variable {P : Program} {w : World} {K : PySem.W.Frag} {mg : Str → Option Value} {base : Heap}
theorem ok__law_built {f : Addr} {fd : FuncData} {k : Nat} (F : Fun K "_law_built" "_law_built" s__law_built f fd) (hb : Bl mg) {j : Nat} (hj : j ≤ k) (CC : Cal P w K mg base "_law_cell_at" j (cCell K)) (CN : Cal P w K mg base "_law_names" j (cNames K)) (CR : Cal P w K mg base "_law_rides" j (cMkRides K)) (CT : Cal P w K mg base "_law_trips" j (cMkTrips K)) :
    FnOk P w K mg base CX0 (k + 1) f fd ["_law_script"] (cBuilt K) := by
  refine fn_con F sc__law_built (fun _ => rfl) fun cdv A outer s H E hr ⟨ns⟩ => ?_
  obtain ⟨nm, nd⟩ := nm__law_built (P := P) (w := w) (K := K) (mg := mg) (base := base) (outer := outer) (H := H) (E := E) hb hr
  show XSs _ [.scr ns, .un, .un, .un, .un, .un, .un, .un] _ _
  refine xs_cons (set nm nd (calE nm CC hj (by walk_at "has") ⟨ns, 0, by decide⟩ (by walk_at "x")) (by walk_at "upd") ?_)
  refine xs_cons (set nm nd (calE nm CC hj (by walk_at "has") ⟨ns, 2, by decide⟩ (by walk_at "x")) (by walk_at "upd") ?_)
  obtain ⟨a, ha⟩ : ∃ c, c = cellAt ns 0 := ⟨_, rfl⟩
  obtain ⟨b, hb0⟩ : ∃ c, c = cellAt ns 2 := ⟨_, rfl⟩
  rw [← ha, ← hb0]
  have a1 := fmod_lt a (n := 6) (by decide)
  have a2 := fmod_lt (a.fdiv 6) (n := 8) (by decide)
  have a3 := fmod_lt a (n := 20) (by decide)
  have a4 := fmod_lt a (n := 9) (by decide)
  have a5 := fmod_lt a (n := 10) (by decide)
  have b1 := fmod_lt b (n := 9) (by decide)
  have b2 := fmod_lt b (n := 5) (by decide)
  have b3 := fmod_lt (b.fdiv 72) (n := 2) (by decide)
  obtain ⟨n1, hn1⟩ : ∃ n : Nat, 1 + a.fmod 6 = n := ⟨(1 + a.fmod 6).toNat, by omega⟩
  obtain ⟨n2, hn2⟩ : ∃ n : Nat, (a.fdiv 6).fmod 8 = n := ⟨((a.fdiv 6).fmod 8).toNat, by omega⟩
  obtain ⟨n3, hn3⟩ : ∃ n : Nat, b.fmod 9 = n := ⟨(b.fmod 9).toNat, by omega⟩
  obtain ⟨n4, hn4⟩ : ∃ n : Nat, b.fmod 5 = n := ⟨(b.fmod 5).toNat, by omega⟩
  refine xs_cons (setF nm nd (cal nm CN hj (by walk_at "has") ⟨cellAt ns 1, n1, by omega⟩ (xa_c (calE nm CC hj (by walk_at "has") ⟨ns, 1, by decide⟩ (by walk_at "x")) rfl (xa_c (XE.is (by walk_at "x") (by rw [hn1])) rfl xa_nil))) (by walk_at "upd") (by rintro _ ⟨_, _, rfl⟩ z; cases z) ?_)
  rintro _ ⟨zs, hz, rfl⟩
  show ∃ cs', Upd _ _ _ (.dat (.list (zs.map .str))) cs' ∧ _
  refine ⟨_, by walk_at "upd", ?_⟩
  refine xs_cons (setF nm nd (cal nm CR hj (by walk_at "has") ⟨ns, 4, by decide, zs, n1, hz, by omega, n2, by omega⟩ (xa_c (by walk_at "x") rfl (xa_c (by walk_at "x") rfl (xa_c (by walk_at "x") rfl (xa_c (XE.is (by walk_at "x") (by rw [hn2])) rfl xa_nil))))) (by walk_at "upd") (by rintro _ ⟨_, _, _, rfl⟩ z; cases z) ?_)
  rintro _ ⟨rs, hrl, hrs, rfl⟩
  show ∃ cs', Upd _ _ _ (.dat (.list (rs.map rideD))) cs' ∧ _
  refine ⟨_, by walk_at "upd", ?_⟩
  refine xs_cons (setF nm nd (cal nm CT hj (by walk_at "has") ⟨ns, 12, by decide, zs, n1, hz, by omega, n3, by omega⟩ (xa_c (by walk_at "x") rfl (xa_c (by walk_at "x") rfl (xa_c (by walk_at "x") rfl (xa_c (XE.is (by walk_at "x") (by rw [hn3])) rfl xa_nil))))) (by walk_at "upd") (by rintro _ ⟨_, _, _, rfl⟩ z; cases z) ?_)
  rintro _ ⟨ts, htl, hts, rfl⟩
  show ∃ cs', Upd _ _ _ (.dat (.list (ts.map tripD))) cs' ∧ _
  refine ⟨_, by walk_at "upd", ?_⟩
  have hrl : rs.length ≤ n2 := hrl
  have htl : ts.length ≤ n3 := htl
  refine xs_cut (fun cs => ∃ ts : List Trip, ts.length ≤ 10 ∧ (∀ t ∈ ts, OkT t) ∧ cs = [.scr ns, .dat (.int a), .dat (.int b), .dat (.list (zs.map .str)), .dat (.list (rs.map rideD)), .dat (.list (ts.map tripD)), .un, .un]) (if_ (by walk_at "fz") (by walk_at "x") (fun hk => ?_) fun _ => ?_) ?_
  · refine xs_cons (set nm nd (c := .dat (.list ((ts ++ ts.take 2).map tripD))) ?_ (by walk_at "upd") ?_)
    · have e : (ts ++ ts.take 2).map tripD = (ts.map tripD) ++ (ts.map tripD).take 2 := by rw [List.map_append, List.map_take]
      rw [e]
      refine xe_fr (c := .own _) (xe_bin (d := .list (ts.map tripD)) (e := .list ((ts.map tripD).take 2)) (by walk_at "x") ?_ (bd_cat ?_))
      · rw [← cutP_to]
        refine xe_fr (c := .own _) (xe_slice (l := none) (h := some 2) (by walk_at "x") trivial ?_)
        show Fw.XE _ _ _ _
        walk_at "x"
      · rw [List.length_take, List.length_map]
        omega
    · refine xs_nil ⟨_, ?_, fun t ht => ?_, rfl⟩
      · rw [List.length_append, List.length_take]
        omega
      · rcases List.mem_append.mp ht with h | h
        · exact hts t h
        · exact hts t (List.mem_of_mem_take h)
  · exact xs_nil ⟨ts, by omega, hts, rfl⟩
  rintro _ ⟨ts, htl, hts, rfl⟩
  refine xs_cut (fun cs => ∃ nz zs rs ts x y, Built nz zs rs ts ∧ cs = [.scr ns, .dat (.int a), .dat (.int b), .dat (.list (zs.map .str)), .dat (.list (rs.map rideD)), .dat (.list (ts.map tripD)), x, y]) (if_ (by walk_at "fz") (by walk_at "x") (fun hk => ?_) fun _ => ?_) ?_
  · refine xs_cons (setF nm nd (cal nm CN hj (by walk_at "has") ⟨cellAt ns 1, 12, by omega⟩ (xa_c (calE nm CC hj (by walk_at "has") ⟨ns, 1, by decide⟩ (by walk_at "x")) rfl (xa_c xe_int rfl xa_nil))) (by walk_at "upd") (by rintro _ ⟨_, _, rfl⟩ z; cases z) ?_)
    rintro _ ⟨zs, hz, rfl⟩
    show ∃ cs', Upd _ _ _ (.dat (.list (zs.map .str))) cs' ∧ _
    refine ⟨_, by walk_at "upd", ?_⟩
    obtain ⟨st, hst, hs1, hs2⟩ : ∃ st : Int, atI [PyData.int (1 + a.fmod 20), PyData.int (9990 + a.fmod 9)] ((b.fdiv 72).fmod 2) = some (.int st) ∧ 1 ≤ st ∧ st ≤ 9998 := by
      rcases (show (b.fdiv 72).fmod 2 = 0 ∨ (b.fdiv 72).fmod 2 = 1 by omega) with h | h
      · rw [h]
        exact ⟨_, rfl, by omega, by omega⟩
      · rw [h]
        exact ⟨_, rfl, by omega, by omega⟩
    refine xs_cons (set nm nd (c := .dat (.int st)) (by walk_at "x") (by walk_at "upd") ?_)
    obtain ⟨n5, hn5⟩ : ∃ n : Nat, 2 + a.fmod 10 = n := ⟨(2 + a.fmod 10).toNat, by omega⟩
    have hzl : zs.length = 12 := hz.1
    have hget : ∀ i : Nat, i < 12 → atI (zs.map PyData.str) (i : Int) = some (.str (zs.getD i Str.empty)) ∧ zs[i]? = some (zs.getD i Str.empty) := fun i hi => by
      have e : zs[i]? = some zs[i] := List.getElem?_eq_getElem (by omega)
      have e2 : zs.getD i Str.empty = zs[i] := by rw [List.getD_eq_getElem?_getD, e]; rfl
      rw [e2]
      exact ⟨atI_nat' (n := i) rfl (by rw [List.getElem?_map, e]; rfl), e⟩
    have hl5 : (rangeD 0 (n5 : Int).toNat).length = n5 := by rw [rangeD_len]; omega
    have lm : ((rangeD 0 (n5 : Int).toNat).zipIdx.map fun p => (fun (i : Nat) (_ : PyData) => rideD (zs.getD i Str.empty, zs.getD (i + 1) Str.empty, st + (i : Int).fmod 2)) p.2 p.1) = ((List.range n5).map fun i : Nat => ((zs.getD i Str.empty, zs.getD (i + 1) Str.empty, st + (i : Int).fmod 2) : Ride)).map rideD := by
      refine List.ext_getElem? fun i => ?_
      rw [List.getElem?_map, List.getElem?_map, List.getElem?_map, List.getElem?_zipIdx]
      by_cases hi : i < n5
      · rw [rangeD_get (by omega), List.getElem?_range hi]
        simp
      · rw [List.getElem?_eq_none (by rw [hl5]; omega), List.getElem?_eq_none (by rw [List.length_range]; omega)]
        rfl
    refine xs_cons (setLcm nm nd (N := N__law_built) (sc := defScope s__law_built) rfl rfl 7 (ds := rangeD 0 (n5 : Int).toNat) (fun i _ => rideD (zs.getD i Str.empty, zs.getD (i + 1) Str.empty, st + (i : Int).fmod 2)) (by rw [hl5]; omega) ?_ (by decide +kernel) (by walk_at "upd") (show (defScope s__law_built).names.lookup ("_law_rides_here" : Str) = some NameKind.local by decide +kernel) (sw_true rfl rfl rfl (by decide +kernel)) ?_ ?_)
    · rw [← hn5]
      refine rg1 nm (by walk_at "has") (by walk_at "has") (by walk_at "x") (by omega)
    · intro i d hd B
      obtain ⟨hi, rfl⟩ := rangeD_inv hd
      have hi5 : i < n5 := by omega
      refine blk nm N__law_built (defScope s__law_built) [none, none, none, some "_law_names_here", none, none, some "_law_step", some "_law_k"] [] rfl rfl (by decide +kernel) fun nmb => ?_
      show XE _ [.scr ns, .dat (.int a), .dat (.int b), .dat (.list (zs.map .str)), .dat (.list (rs.map rideD)), .dat (.list (ts.map tripD)), .dat (.int st), .dat (.int (0 + (i : Int)))] _ _
      rw [show (0 : Int) + (i : Int) = (i : Int) by omega]
      have g1 := (hget i (by omega)).1
      have g2 := (hget (i + 1) (by omega)).1
      rw [show ((i + 1 : Nat) : Int) = (i : Int) + 1 by omega] at g2
      unfold rideD
      walk_at "x"
    rw [lm]
    obtain ⟨rs2, hrs2⟩ : ∃ rs2, rs2 = (List.range n5).map fun i : Nat => ((zs.getD i Str.empty, zs.getD (i + 1) Str.empty, st + (i : Int).fmod 2) : Ride) := ⟨_, rfl⟩
    have ok2 : ∀ r ∈ rs2, OkR r := fun r hr => by
      rw [hrs2] at hr
      obtain ⟨i, hi, rfl⟩ := List.mem_map.mp hr
      rw [List.mem_range] at hi
      have g1 := (hget i (by omega)).2
      have g2 := (hget (i + 1) (by omega)).2
      have f1 := fmod_lt (i : Int) (n := 2) (by decide)
      refine okR_iff.mpr ⟨hz.2.2 _ (List.mem_of_getElem? g1), hz.2.2 _ (List.mem_of_getElem? g2), fun e => ?_, by show 1 ≤ st + _; omega, by show st + _ ≤ 9999; omega⟩
      have e : zs.getD i Str.empty = zs.getD (i + 1) Str.empty := e
      rw [← e] at g2
      have := nd_ix hz.2.1 g1 g2
      omega
    have l2 : rs2.length ≤ 11 := by
      rw [hrs2, List.length_map, List.length_range]
      omega
    rw [← hrs2]
    refine xs_seal nm (x := "_law_rides_here") (by walk_at "sel") (by walk_at "upd") ?_
    refine xs_cons (setF nm nd (cal nm CT hj (by walk_at "has") ⟨ns, 12, by decide, zs, 12, hz, by omega, n4, by omega⟩ (xa_c (by walk_at "x") rfl (xa_c (by walk_at "x") rfl (xa_c (by walk_at "x") rfl (xa_c (XE.is (by walk_at "x") (by rw [hn4])) rfl xa_nil))))) (by walk_at "upd") (by rintro _ ⟨_, _, _, rfl⟩ z; cases z) ?_)
    rintro _ ⟨ts2, htl2, hts2, rfl⟩
    show ∃ cs', Upd _ _ _ (.dat (.list (ts2.map tripD))) cs' ∧ _
    refine ⟨_, by walk_at "upd", ?_⟩
    have htl2 : ts2.length ≤ n4 := htl2
    exact xs_nil ⟨12, zs, rs2, ts2, _, _, ⟨hz, by omega, by omega, l2, ok2, by omega, hts2⟩, rfl⟩
  · exact xs_nil ⟨n1, zs, rs, ts, _, _, ⟨hz, by omega, by omega, by omega, hrs, htl, hts⟩, rfl⟩
  · rintro _ ⟨nz, zs, rs, ts, x, y, hB, rfl⟩
    refine xs_cons (x_ret (c := .dat (builtD zs rs ts)) ?_ ⟨nz, zs, rs, ts, hB, rfl⟩)
    unfold builtD
    walk_at "x"
end
end K8

set_option maxRecDepth 100000
set_option maxHeartbeats 4000000
namespace K8
open PySem PySem.Spec PyProof.Rows L2 Fw Bus
open Dj (Best dist)
local macro_rules | `(tactic| walk_at "sel") => `(tactic| repeat (first | with_reducible apply Sel.z | apply Sel.s))
local macro_rules | `(tactic| walk_at "upd") => `(tactic| repeat (first | with_reducible apply Upd.z | apply Upd.s))
local macro_rules | `(tactic| walk_at "has") => `(tactic| repeat (first | with_reducible apply Has.z | apply Has.s))
local macro_rules | `(tactic| walk_at "fz") => `(tactic| repeat (first | exact Fz.nil | apply Fz.un | apply Fz.dat | apply Fz.scr | apply Fz.rng | apply Fz.dic | apply Fz.ldc | apply Fz.own | apply Fz.odi | apply Fz.any))
local macro_rules | `(tactic| walk_at "bi") => `(tactic| first | with_reducible exact BI.len | with_reducible exact BI.max | with_reducible exact BI.min | with_reducible exact BI.all | with_reducible exact BI.any | with_reducible exact BI.sorted | with_reducible exact BI.sum | with_reducible exact BI.abs)
local macro_rules | `(tactic| walk_at "bt") => `(tactic| first | with_reducible exact BT.list | with_reducible exact BT.tuple | with_reducible exact BT.str | with_reducible exact BT.int | with_reducible exact BT.bool | with_reducible exact BT.dict)
local macro_rules | `(tactic| walk_at "bd") => `(tactic| first | exact bd_add | exact bd_sub | (apply bd_mod <;> try decide) | (apply bd_fdiv <;> try decide) | apply bd_adds | apply bd_muls | apply bd_mul | apply bd_cat)
local macro_rules | `(tactic| walk_at "cd") => `(tactic| first | exact cd_lt | exact cd_le | exact cd_gt | exact cd_ge | exact cd_eqi | exact cd_nei | exact cd_eqs | exact cd_nes | exact cd_inSign | apply cd_eqD (Nm.hu (by assumption)) | apply cd_neD (Nm.hu (by assumption)) | apply cd_inD (Nm.hu5 (by assumption)) | apply cd_notInD (Nm.hu5 (by assumption)))
local macro_rules | `(tactic| walk_at "id") => `(tactic| first | (apply id_l <;> try first | assumption | rfl) | (apply id_t <;> try first | assumption | rfl) | (apply id_s <;> try first | assumption | (show Str.length _ ≤ sizeLine; decide +kernel)))
local macro_rules | `(tactic| walk_at "cl") => `(tactic| first | exact cl_lenL | exact cl_lenT | apply cl_lenS | exact cl_list | exact cl_max2 (Nm.calm (by assumption)) | exact cl_all (Nm.calm (by assumption)))
local macro_rules | `(tactic| walk_at "x") => `(tactic| first
  | exact xe_int | exact xe_str | exact xe_bl | exact xe_non
  | (apply ve; · assumption
     · walk_at "sel")
  | (apply ve'; · assumption
     · walk_at "sel"
     all_goals (first | rfl | (intro z; cases z; done)))
  | (apply gle_int; · assumption
     · walk_at "has"
     · with_reducible assumption)
  | (apply gle_str; · assumption
     · walk_at "has"
     · with_reducible assumption)
  | (show Nm _ _ _ _ _ _ _ _ _ _; assumption)
  | (apply xe_bin <;> try walk_at "x") | walk_at "bd"
  | (apply xt_cmp <;> try walk_at "x") | (apply xe_cmp <;> try walk_at "x") | walk_at "cd"
  | (show behindInMarks _ _ = false; first | exact nomark _ | rfl)
  | (apply xt_not <;> try walk_at "x") | (apply xe_not <;> try walk_at "x")
  | (apply xe_unop <;> try walk_at "x") | exact ud_neg
  | (apply xt_pw; apply xw_and <;> try walk_at "x") | (apply xt_pw; apply xw_or <;> try walk_at "x")
  | (apply xw_and <;> try walk_at "x") | (apply xw_or <;> try walk_at "x") | (apply xw_and1 <;> try walk_at "x") | (apply xw_or1 <;> try walk_at "x")
  | (apply xe_and <;> try walk_at "x") | (apply xe_or <;> try walk_at "x") | (apply xe_one <;> try walk_at "x")
  | (apply cisi; · assumption
     · walk_at "bt"
     · walk_at "has"
     · walk_at "has"
     · walk_at "has"
     · walk_at "has"
     all_goals try walk_at "x")
  | (apply cbi; · assumption
     · walk_at "bi"
     · walk_at "has"
     · walk_at "has"
     all_goals try walk_at "x")
  | (apply cty; · assumption
     · walk_at "bt"
     · walk_at "has"
     · walk_at "has"
     all_goals walk_at "x")
  | (apply xe_fr (c := .own _)
     (apply cty; · assumption
      · walk_at "bt"
      · walk_at "has"
      · walk_at "has"
      all_goals walk_at "x"))
  | (apply cty; · assumption
     · walk_at "bt"
     · walk_at "has"
     · walk_at "has"
     all_goals try walk_at "x")
  | walk_at "cl"
  | exact xd_nil | (apply xd_cons <;> try walk_at "x") | exact xa_nil | (apply xa_c <;> try walk_at "x")
  | (apply xe_list <;> try walk_at "x") | (apply xe_tup <;> try walk_at "x")
  | (apply xe_ix <;> try walk_at "x") | walk_at "id"
  | (show PlainIx _; exact fun _ _ => rfl)
  | (apply xt_chainI op_le op_le <;> try walk_at "x") | (apply xt_chainI op_le op_lt <;> try walk_at "x") | (apply xe_chainI op_le op_le <;> try walk_at "x") | (apply xe_chainI op_le op_lt <;> try walk_at "x")
  | (apply xt_val <;> try walk_at "x")
  | (apply xe_fr (c := .own _) <;> try walk_at "x")
  | (show List.length _ ≤ 100000; exact Nat.le_of_ble_eq_true rfl)
  | (show lastMarks _ _ = false; with_unfolding_all rfl)
  | (show _ = _; rfl)
  | (intro _; walk_at "x"))
abbrev cLaw (K : PySem.W.Frag) : Sp := Con K (fun a : AScr => [.scr a.ns]) (fun _ c => c = .dat (.bool true))
section
variable {P : Program} {w : World} {K : PySem.W.Frag} {mg : Str → Option Value} {base : Heap}
theorem ok_law {f : Addr} {fd : FuncData} {k : Nat} (F : Fun K "law" "law" s_law f fd) (hb : Bl mg) {j : Nat} (hj : j ≤ k) (CB : Cal P w K mg base "_law_built" j (cBuilt K)) (CC : Cal P w K mg base "_law_cell_at" j (cCell K)) (CT : Cal P w K mg base "_law_trips" j (cMkTrips K)) (CL : Cal P w K mg base "_law_roads" j (cRoads K)) (CP : Cal P w K mg base "plan" j (cPlanF K))
    (CW : Cal P w K mg base "_law_whole" j (cWhole K)) (CD : Cal P w K mg base "_law_done" j (cDone K)) (CA : Cal P w K mg base "_law_apart" j (cApart8 K)) : FnOk P w K mg base CX0 (k + 1) f fd ["_law_script"] (cLaw K) := by
  refine fn_con F sc_law (fun _ => rfl) fun cdv A outer s H E hr ⟨ns⟩ => ?_
  obtain ⟨nm, nd⟩ := nm_law (P := P) (w := w) (K := K) (mg := mg) (base := base) (outer := outer) (H := H) (E := E) hb hr
  show XSs _ [.scr ns, .un, .un, .un, .un, .un, .un, .un, .un, .un, .un, .un] _ _
  refine xs_cons (x_asgP (cal nm CB hj (by walk_at "has") ⟨ns⟩ (by walk_at "x")) ?_)
  rintro _ ⟨nz, zs, rs, ts0, hB, rfl⟩
  refine ⟨_, rfl, xg_tup nm.calm (xgs_cons (gnm nm nd (by walk_at "upd") (xgs_cons (gnm nm nd (by walk_at "upd") (xgs_cons (gnm nm nd (by walk_at "upd") (xgs_nil ?_)))))))⟩
  obtain ⟨hz, hz1, hz2, hrl, hrs, htl0, hts0⟩ := hB
  refine xs_cut (fun c => ∃ (ts : List Trip) (a b : Cell), ts.length ≤ 40 ∧ (∀ t ∈ ts, OkT t) ∧ c = [.scr ns, .dat (.list (zs.map .str)), .dat (.list (rs.map rideD)), .dat (.list (ts.map tripD)), a, b, .un, .un, .un, .un, .un, .un]) (if_ (kk := decide ((cellAt ns 3).fmod 8 = 1)) (by walk_at "fz") (xt_cmp (xe_bin (calE nm CC hj (by walk_at "has") ⟨ns, 3, by decide⟩ (by walk_at "x")) (by walk_at "x") (bd_mod (by decide))) (by walk_at "x") cd_eqi) (fun _ => ?_) fun _ => ?_) ?_
  · obtain ⟨cl, hcl⟩ : ∃ c, c = cellAt ns 3 := ⟨_, rfl⟩
    obtain ⟨ms, hms⟩ : ∃ ms : List Int, ms = (List.range 40).map fun k : Nat => (cl.fdiv 8) * 7 + 977 * (k : Int) * ((k : Int) + 3) := ⟨_, rfl⟩
    refine xs_cons (setLcm nm nd (N := N_law) (sc := defScope s_law) rfl rfl 4 (ds := rangeD 0 ((40 : Nat) : Int).toNat) (fun k _ => .int ((cl.fdiv 8) * 7 + 977 * (k : Int) * ((k : Int) + 3))) (by rw [rangeD_len]; omega) (rg1 nm (by walk_at "has") (by walk_at "has") (by walk_at "x") (by decide)) (by decide +kernel) (by walk_at "upd") (show (defScope s_law).names.lookup ("_law_more" : Str) = some NameKind.local by decide +kernel) (sw_true rfl rfl rfl (by decide +kernel)) ?_ ?_)
    · intro i d hd B
      obtain ⟨hi, rfl⟩ := rangeD_inv hd
      rw [show (0 : Int) + (i : Int) = (i : Int) by omega]
      have hi : i < 40 := by omega
      refine blk nm N_law (defScope s_law) [some "_law_script", none, none, none, some "_law_k", none, none, none, none, none, none, none] ["_law_cell_at"] rfl rfl (by decide +kernel) fun nmb => ?_
      show XE _ [.scr ns, .dat (.list (zs.map .str)), .dat (.list (rs.map rideD)), .dat (.list (ts0.map tripD)), .dat (.int (i : Nat)), .un, .un, .un, .un, .un, .un, .un] _ _
      rw [hcl]
      refine xe_bin (xe_bin (xe_bin (calE nmb CC hj (by walk_at "has") ⟨ns, 3, by decide⟩ (by walk_at "x")) (by walk_at "x") (bd_fdiv (by decide))) (by walk_at "x") (bd_mul (.inr (by decide)))) (xe_bin (xe_bin (by walk_at "x") (by walk_at "x") (bd_mul (.inl (by decide)))) (by walk_at "x") (bd_mul (.inr (by omega)))) bd_add
    rw [rng_map (f := fun k : Nat => PyData.int ((cl.fdiv 8) * 7 + 977 * (k : Int) * ((k : Int) + 3))) (fun _ _ _ => rfl), show ((List.range 40).map fun k : Nat => PyData.int ((cl.fdiv 8) * 7 + 977 * (k : Int) * ((k : Int) + 3))) = ms.map .int by rw [hms, List.map_map]; rfl]
    refine xs_seal nm (x := "_law_more") (by walk_at "sel") (by walk_at "upd") ?_
    have b1 := fmod_lt (cl.fdiv 8) (n := 31) (by decide)
    obtain ⟨n1, hn1⟩ : ∃ n : Nat, 10 + (cl.fdiv 8).fmod 31 = n := ⟨(10 + (cl.fdiv 8).fmod 31).toNat, by omega⟩
    refine xs_cons (setF nm nd (cal nm CT hj (by walk_at "has") ⟨ms, 0, by decide, zs, nz, hz, hz1, n1, by omega⟩ (xa_c (xe_scr (by walk_at "x")) rfl (xa_c (by walk_at "x") rfl (xa_c (by walk_at "x") rfl (xa_c (XE.is (xe_bin (by walk_at "x") (xe_bin (xe_bin (calE nm CC hj (by walk_at "has") ⟨ns, 3, by decide⟩ (by walk_at "x")) (by walk_at "x") (bd_fdiv (by decide))) (by walk_at "x") (bd_mod (by decide))) bd_add) (by rw [← hn1, hcl])) rfl xa_nil))))) (by walk_at "upd") (by rintro _ ⟨_, _, _, rfl⟩ z; cases z) ?_)
    rintro _ ⟨ts, htl, hts, rfl⟩
    have htl : ts.length ≤ n1 := htl
    show ∃ cs', Upd _ _ _ (.dat (.list (ts.map tripD))) cs' ∧ _
    exact ⟨_, by walk_at "upd", xs_nil ⟨ts, _, _, by omega, hts, rfl⟩⟩
  · exact xs_nil ⟨ts0, _, _, by omega, hts0, rfl⟩
  rintro _ ⟨ts, a1, a2, htl, hts, rfl⟩
  refine xs_cons (set nm nd (c := .dat (.list ((laid rs ts).map rideD))) (xe_fr (c := .own _) (calE nm CL hj (by walk_at "has") ⟨rs, ts, hrs, hts, by omega, by omega⟩ (by walk_at "x"))) (by walk_at "upd") ?_)
  refine xs_cons (x_asgP (cal nm CP hj (by walk_at "has") ⟨⟨rs, ts, hrs, hts, by omega, by omega⟩, by show rs.length ≤ 100; omega, by show ts.length ≤ 100; omega⟩ (by walk_at "x")) ?_)
  rintro _ ⟨rows, apart, pl, rfl⟩
  have ok : PlanOk (laid rs ts) ts rows apart := pl
  refine ⟨_, rfl, xg_tup nm.calm (xgs_cons (gnm nm nd (by walk_at "upd") (xgs_cons (gnm nm nd (by walk_at "upd") (xgs_nil ?_)))))⟩
  have hll : (listsD rows).length = rows.length := by unfold listsD; rw [List.length_map]
  have tk := plan_take ok.perm
  have al := apart_len ok
  refine xs_cons (set nm nd (c := .dat (.list (numsD apart))) (by walk_at "x") (by walk_at "upd") ?_)
  refine xs_cons (for_ nm nd (ds := listsD rows) (fun i c => ∃ x, c = [.scr ns, .dat (.list (zs.map .str)), .dat (.list (rs.map rideD)), .dat (.list (ts.map tripD)), a1, a2, .dat (.list ((laid rs ts).map rideD)), .dat (.list (listsD rows)), .dat (.list (numsD apart)), .dat (.list (numsD (apart ++ (rows.take i).flatten))), x, .un]) (xi_list (by walk_at "x")) ⟨_, by rw [List.take_zero, List.flatten_nil, List.append_nil]⟩ ?_ ?_)
  · rintro i d _ hd ⟨x, rfl⟩
    obtain ⟨row, er, rfl⟩ := lists_inv hd
    have hm := List.mem_of_getElem? er
    refine gnm nm nd (by walk_at "upd") ?_
    exact xs_cons (set nm nd (c := .dat (.list (numsD (apart ++ (rows.take (i + 1)).flatten)))) (xe_fr (c := .own (numsD (apart ++ (rows.take (i + 1)).flatten))) (XE.is (xe_bin (d := .list (numsD (apart ++ (rows.take i).flatten))) (e := .list (numsD row)) (by walk_at "x") (by walk_at "x") (bd_cat (by rw [numsD_len, numsD_len, List.length_append]; have := tk i; have := ok.rl row hm; omega))) (by rw [← numsD_app, List.take_add_one, er, List.flatten_append]; simp))) (by walk_at "upd") (xs_nil ⟨_, rfl⟩))
  rintro _ ⟨x, rfl⟩
  rw [hll, List.take_length]
  obtain ⟨all, hall⟩ : ∃ all, all = apart ++ rows.flatten := ⟨_, rfl⟩
  rw [← hall]
  have hin : ∀ n ∈ all, n < ts.length := fun n hn => by
    rw [hall] at hn
    rcases List.mem_append.mp hn with h | h
    · exact ok.lt n h
    · exact List.mem_range.mp (ok.perm.mem_iff.mp h)
  refine xs_cons (for_ nm nd (ds := numsD all) (fun _ c => ∃ y, c = [.scr ns, .dat (.list (zs.map .str)), .dat (.list (rs.map rideD)), .dat (.list (ts.map tripD)), a1, a2, .dat (.list ((laid rs ts).map rideD)), .dat (.list (listsD rows)), .dat (.list (numsD apart)), .dat (.list (numsD all)), x, y]) (xi_list (by walk_at "x")) ⟨_, rfl⟩ ?_ ?_)
  · rintro i d _ hd ⟨y, rfl⟩
    obtain ⟨n, hn0, rfl⟩ := numsD_inv hd
    have hn := hin n (List.mem_of_getElem? hn0)
    refine gnm nm nd (by walk_at "upd") ?_
    refine xs_cons (if_ (kk := false) (by walk_at "fz") ?_ (fun h => by cases h) fun _ => xs_nil (xs_nil ⟨_, rfl⟩))
    refine XT.is (xt_pw (xw_or (XT.is (xt_not (xt_val (calE nm CW hj (by walk_at "has") (.int (n : Nat)) (by walk_at "x")))) rfl) fun _ => xw_or1 (xt_not (xt_chainI op_le op_lt (by walk_at "x") (by walk_at "x") (by walk_at "x"))))) ?_
    rw [List.length_map, decide_eq_true (show (0 : Int) ≤ ((n : Nat) : Int) by omega), decide_eq_true (show ((n : Nat) : Int) < ((ts.length : Nat) : Int) by omega)]
    rfl
  rintro _ ⟨y, rfl⟩
  refine xs_cons (if_ (kk := false) (by walk_at "fz") (XT.is (xt_cmp (d := .int (rows.length : Nat)) (e := .int (apart.length : Nat)) (XE.is (by walk_at "x") (by rw [hll])) (XE.is (by walk_at "x") (by rw [numsD_len])) cd_nei) (by simp [ok.len])) (fun h => by cases h) fun _ => xs_nil ?_)
  refine xs_cons (for_ nm nd (ds := rangeD 1 ((apart.length : Int) - 1).toNat) (fun _ c => ∃ b1, c = [.scr ns, .dat (.list (zs.map .str)), .dat (.list (rs.map rideD)), .dat (.list (ts.map tripD)), b1, a2, .dat (.list ((laid rs ts).map rideD)), .dat (.list (listsD rows)), .dat (.list (numsD apart)), .dat (.list (numsD all)), x, y]) (rg2 nm (by walk_at "has") (by walk_at "has") xe_int (XE.is (by walk_at "x") (by rw [numsD_len])) (by omega)) ⟨_, rfl⟩ ?_ ?_)
  · rintro i d _ hd ⟨b1, rfl⟩
    obtain ⟨hi, rfl⟩ := rangeD_inv hd
    rw [show (1 : Int) + (i : Int) = ((i + 1 : Nat) : Int) by omega]
    have hi : i + 1 < apart.length := by omega
    refine gnm nm nd (by walk_at "upd") ?_
    have e0 : apart[i]? = some apart[i] := List.getElem?_eq_getElem (by omega)
    have e1 : apart[i + 1]? = some apart[i + 1] := List.getElem?_eq_getElem hi
    have hlt : apart[i] < apart[i + 1] := List.pairwise_iff_getElem.mp ok.asc i (i + 1) (by omega) hi (by omega)
    exact xs_cons (if_ (kk := false) (by walk_at "fz") (XT.is (xt_cmp (xe_ix (d := .list (numsD apart)) (e := .int (i : Nat)) (by walk_at "x") (XE.is (by walk_at "x") (by rw [show (((i + 1 : Nat) : Int) - 1) = (i : Int) by omega])) (id_l (atI_nat' (n := i) rfl (numsD_get e0)))) (xe_ix (d := .list (numsD apart)) (by walk_at "x") (by walk_at "x") (id_l (atI_nat' (n := i + 1) rfl (numsD_get e1)))) cd_ge) (decide_eq_false (by omega))) (fun h => by cases h) fun _ => xs_nil (xs_nil ⟨_, rfl⟩))
  rintro _ ⟨b1, rfl⟩
  refine xs_cons (x_ret (c := .dat (.bool true)) (xe_and (x := true) (y := true) (calE nm CD hj (by walk_at "has") ⟨rs, ts, hrs, hts, by omega, by omega, rows, apart, ok⟩ (show XA _ _ _ [.dat (.list ((laid rs ts).map rideD)), .dat (.list (rs.map rideD)), .dat (.list (ts.map tripD)), .dat (.list (listsD rows))] from by walk_at "x")) fun _ => xe_one (calE nm CA hj (by walk_at "has") ⟨rs, ts, hrs, hts, by omega, by omega, rows, apart, ok⟩ (show XA _ _ _ [.dat (.list ((laid rs ts).map rideD)), .dat (.list (rs.map rideD)), .dat (.list (ts.map tripD)), .dat (.list (numsD apart))] from by walk_at "x"))) rfl)
end
end K8

set_option maxRecDepth 100000
set_option maxHeartbeats 4000000
namespace K8
open PySem PySem.Spec PyProof.Rows L2 Fw Bus
open Dj (Best dist)
local macro_rules | `(tactic| walk_at "sel") => `(tactic| repeat (first | with_reducible apply Sel.z | apply Sel.s))
local macro_rules | `(tactic| walk_at "upd") => `(tactic| repeat (first | with_reducible apply Upd.z | apply Upd.s))
local macro_rules | `(tactic| walk_at "has") => `(tactic| repeat (first | with_reducible apply Has.z | apply Has.s))
local macro_rules | `(tactic| walk_at "fz") => `(tactic| repeat (first | exact Fz.nil | apply Fz.un | apply Fz.dat | apply Fz.scr | apply Fz.rng | apply Fz.dic | apply Fz.ldc | apply Fz.own | apply Fz.odi | apply Fz.any))
local macro_rules | `(tactic| walk_at "bi") => `(tactic| first | with_reducible exact BI.len | with_reducible exact BI.max | with_reducible exact BI.min | with_reducible exact BI.all | with_reducible exact BI.any | with_reducible exact BI.sorted | with_reducible exact BI.sum | with_reducible exact BI.abs)
local macro_rules | `(tactic| walk_at "bt") => `(tactic| first | with_reducible exact BT.list | with_reducible exact BT.tuple | with_reducible exact BT.str | with_reducible exact BT.int | with_reducible exact BT.bool | with_reducible exact BT.dict)
local macro_rules | `(tactic| walk_at "bd") => `(tactic| first | exact bd_add | exact bd_sub | (apply bd_mod <;> try decide) | (apply bd_fdiv <;> try decide) | apply bd_adds | apply bd_muls | apply bd_mul | apply bd_cat)
local macro_rules | `(tactic| walk_at "cd") => `(tactic| first | exact cd_lt | exact cd_le | exact cd_gt | exact cd_ge | exact cd_eqi | exact cd_nei | exact cd_eqs | exact cd_nes | exact cd_inSign | apply cd_eqD (Nm.hu (by assumption)) | apply cd_neD (Nm.hu (by assumption)) | apply cd_inD (Nm.hu5 (by assumption)) | apply cd_notInD (Nm.hu5 (by assumption)))
local macro_rules | `(tactic| walk_at "id") => `(tactic| first | (apply id_l <;> try first | assumption | rfl) | (apply id_t <;> try first | assumption | rfl) | (apply id_s <;> try first | assumption | (show Str.length _ ≤ sizeLine; decide +kernel)))
local macro_rules | `(tactic| walk_at "cl") => `(tactic| first | exact cl_lenL | exact cl_lenT | apply cl_lenS | exact cl_list | exact cl_max2 (Nm.calm (by assumption)) | exact cl_all (Nm.calm (by assumption)))
local macro_rules | `(tactic| walk_at "x") => `(tactic| first
  | exact xe_int | exact xe_str | exact xe_bl | exact xe_non
  | (apply ve; · assumption
     · walk_at "sel")
  | (apply ve'; · assumption
     · walk_at "sel"
     all_goals (first | rfl | (intro z; cases z; done)))
  | (apply gle_int; · assumption
     · walk_at "has"
     · with_reducible assumption)
  | (apply gle_str; · assumption
     · walk_at "has"
     · with_reducible assumption)
  | (show Nm _ _ _ _ _ _ _ _ _ _; assumption)
  | (apply xe_bin <;> try walk_at "x") | walk_at "bd"
  | (apply xt_cmp <;> try walk_at "x") | (apply xe_cmp <;> try walk_at "x") | walk_at "cd"
  | (show behindInMarks _ _ = false; first | exact nomark _ | rfl)
  | (apply xt_not <;> try walk_at "x") | (apply xe_not <;> try walk_at "x")
  | (apply xe_unop <;> try walk_at "x") | exact ud_neg
  | (apply xt_pw; apply xw_and <;> try walk_at "x") | (apply xt_pw; apply xw_or <;> try walk_at "x")
  | (apply xw_and <;> try walk_at "x") | (apply xw_or <;> try walk_at "x") | (apply xw_and1 <;> try walk_at "x") | (apply xw_or1 <;> try walk_at "x")
  | (apply xe_and <;> try walk_at "x") | (apply xe_or <;> try walk_at "x") | (apply xe_one <;> try walk_at "x")
  | (apply cisi; · assumption
     · walk_at "bt"
     · walk_at "has"
     · walk_at "has"
     · walk_at "has"
     · walk_at "has"
     all_goals try walk_at "x")
  | (apply cbi; · assumption
     · walk_at "bi"
     · walk_at "has"
     · walk_at "has"
     all_goals try walk_at "x")
  | (apply cty; · assumption
     · walk_at "bt"
     · walk_at "has"
     · walk_at "has"
     all_goals walk_at "x")
  | (apply xe_fr (c := .own _)
     (apply cty; · assumption
      · walk_at "bt"
      · walk_at "has"
      · walk_at "has"
      all_goals walk_at "x"))
  | (apply cty; · assumption
     · walk_at "bt"
     · walk_at "has"
     · walk_at "has"
     all_goals try walk_at "x")
  | walk_at "cl"
  | exact xd_nil | (apply xd_cons <;> try walk_at "x") | exact xa_nil | (apply xa_c <;> try walk_at "x")
  | (apply xe_list <;> try walk_at "x") | (apply xe_tup <;> try walk_at "x")
  | (apply xe_ix <;> try walk_at "x") | walk_at "id"
  | (show PlainIx _; exact fun _ _ => rfl)
  | (apply xt_chainI op_le op_le <;> try walk_at "x") | (apply xt_chainI op_le op_lt <;> try walk_at "x") | (apply xe_chainI op_le op_le <;> try walk_at "x") | (apply xe_chainI op_le op_lt <;> try walk_at "x")
  | (apply xt_val <;> try walk_at "x")
  | (apply xe_fr (c := .own _) <;> try walk_at "x")
  | (show List.length _ ≤ 100000; exact Nat.le_of_ble_eq_true rfl)
  | (show lastMarks _ _ = false; with_unfolding_all rfl)
  | (show _ = _; rfl)
  | (intro _; walk_at "x"))
def spLaw (K : PySem.W.Frag) : Sp := fun vs H Q _ => ∃ (a : Addr) (ns : List Int), vs = [.ref a] ∧ SqL K H a (ns.map V.int) ∧ ns.length ≤ 63 ∧ ∀ H', Q (.bl true) H'
theorem law_imp {K : PySem.W.Frag} {vs : List V} {H : Hp} {Q : VK} {E : XK} (h : spLaw K vs H Q E) : cLaw K vs H Q E := by
  obtain ⟨a, ns, rfl, hS, _, q⟩ := h
  exact ⟨⟨ns⟩, H, Evl.Ex.refl _, .cons ⟨a, rfl, hS⟩ .nil, fun v G' H' c hc x r => by
    subst hc
    cases r
    exact q _⟩
theorem all_mk {l : PySem.W.OpenLaw} {w : World} {K : PySem.W.Frag} {h : Heap} {mg : Str → Option Value} {fa : Addr} (X : K.In h) (G : h.Ns mainGlobals mg) (hfa : mg "law" = some (.ref fa))
    {fx_law_cell_at : Addr} {odx_law_cell_at anx_law_cell_at : Option Addr} {slx_law_cell_at : Array (Option Value)} {ocx_law_cell_at kVx_law_cell_at dcx_law_cell_at pmx_law_cell_at cdx_law_cell_at ctx_law_cell_at : Value} {fx_law_names : Addr} {odx_law_names anx_law_names : Option Addr} {slx_law_names : Array (Option Value)} {ocx_law_names kVx_law_names dcx_law_names pmx_law_names cdx_law_names ctx_law_names : Value} {fx_law_rides : Addr} {odx_law_rides anx_law_rides : Option Addr} {slx_law_rides : Array (Option Value)} {ocx_law_rides kVx_law_rides dcx_law_rides pmx_law_rides cdx_law_rides ctx_law_rides : Value} {fx_law_trips : Addr} {odx_law_trips anx_law_trips : Option Addr} {slx_law_trips : Array (Option Value)} {ocx_law_trips kVx_law_trips dcx_law_trips pmx_law_trips cdx_law_trips ctx_law_trips : Value} {fx_law_built : Addr} {odx_law_built anx_law_built : Option Addr} {slx_law_built : Array (Option Value)} {ocx_law_built kVx_law_built dcx_law_built pmx_law_built cdx_law_built ctx_law_built : Value} {fx_law_roads : Addr} {odx_law_roads anx_law_roads : Option Addr} {slx_law_roads : Array (Option Value)} {ocx_law_roads kVx_law_roads dcx_law_roads pmx_law_roads cdx_law_roads ctx_law_roads : Value} {fxis_place : Addr} {odxis_place anxis_place : Option Addr} {slxis_place : Array (Option Value)} {ocxis_place kVxis_place dcxis_place pmxis_place cdxis_place ctxis_place : Value} {fxis_whole : Addr} {odxis_whole anxis_whole : Option Addr} {slxis_whole : Array (Option Value)} {ocxis_whole kVxis_whole dcxis_whole pmxis_whole cdxis_whole ctxis_whole : Value} {fxis_ride : Addr} {odxis_ride anxis_ride : Option Addr} {slxis_ride : Array (Option Value)} {ocxis_ride kVxis_ride dcxis_ride pmxis_ride cdxis_ride ctxis_ride : Value} {fxis_trip : Addr} {odxis_trip anxis_trip : Option Addr} {slxis_trip : Array (Option Value)} {ocxis_trip kVxis_trip dcxis_trip pmxis_trip cdxis_trip ctxis_trip : Value} {fxlook_at_lists : Addr} {odxlook_at_lists anxlook_at_lists : Option Addr} {slxlook_at_lists : Array (Option Value)} {ocxlook_at_lists kVxlook_at_lists dcxlook_at_lists pmxlook_at_lists cdxlook_at_lists ctxlook_at_lists : Value} {fxlaid_roads : Addr} {odxlaid_roads anxlaid_roads : Option Addr} {slxlaid_roads : Array (Option Value)} {ocxlaid_roads kVxlaid_roads dcxlaid_roads pmxlaid_roads cdxlaid_roads ctxlaid_roads : Value} {fxleaving : Addr} {odxleaving anxleaving : Option Addr} {slxleaving : Array (Option Value)} {ocxleaving kVxleaving dcxleaving pmxleaving cdxleaving ctxleaving : Value} {fxexplored : Addr} {odxexplored anxexplored : Option Addr} {slxexplored : Array (Option Value)} {ocxexplored kVxexplored dcxexplored pmxexplored cdxexplored ctxexplored : Value} {fxin_time : Addr} {odxin_time anxin_time : Option Addr} {slxin_time : Array (Option Value)} {ocxin_time kVxin_time dcxin_time pmxin_time cdxin_time ctxin_time : Value} {fxfollowing : Addr} {odxfollowing anxfollowing : Option Addr} {slxfollowing : Array (Option Value)} {ocxfollowing kVxfollowing dcxfollowing pmxfollowing cdxfollowing ctxfollowing : Value} {fxfollowers : Addr} {odxfollowers anxfollowers : Option Addr} {slxfollowers : Array (Option Value)} {ocxfollowers kVxfollowers dcxfollowers pmxfollowers cdxfollowers ctxfollowers : Value} {fxmeant_for : Addr} {odxmeant_for anxmeant_for : Option Addr} {slxmeant_for : Array (Option Value)} {ocxmeant_for kVxmeant_for dcxmeant_for pmxmeant_for cdxmeant_for ctxmeant_for : Value} {fxpair_anew : Addr} {odxpair_anew anxpair_anew : Option Addr} {slxpair_anew : Array (Option Value)} {ocxpair_anew kVxpair_anew dcxpair_anew pmxpair_anew cdxpair_anew ctxpair_anew : Value} {fxpaired : Addr} {odxpaired anxpaired : Option Addr} {slxpaired : Array (Option Value)} {ocxpaired kVxpaired dcxpaired pmxpaired cdxpaired ctxpaired : Value} {fxrow_from : Addr} {odxrow_from anxrow_from : Option Addr} {slxrow_from : Array (Option Value)} {ocxrow_from kVxrow_from dcxrow_from pmxrow_from cdxrow_from ctxrow_from : Value} {fxstanding_apart : Addr} {odxstanding_apart anxstanding_apart : Option Addr} {slxstanding_apart : Array (Option Value)} {ocxstanding_apart kVxstanding_apart dcxstanding_apart pmxstanding_apart cdxstanding_apart ctxstanding_apart : Value} {fxplan : Addr} {odxplan anxplan : Option Addr} {slxplan : Array (Option Value)} {ocxplan kVxplan dcxplan pmxplan cdxplan ctxplan : Value} {fx_law_whole : Addr} {odx_law_whole anx_law_whole : Option Addr} {slx_law_whole : Array (Option Value)} {ocx_law_whole kVx_law_whole dcx_law_whole pmx_law_whole cdx_law_whole ctx_law_whole : Value} {fxis_number : Addr} {odxis_number anxis_number : Option Addr} {slxis_number : Array (Option Value)} {ocxis_number kVxis_number dcxis_number pmxis_number cdxis_number ctxis_number : Value} {fxlook_at_number : Addr} {odxlook_at_number anxlook_at_number : Option Addr} {slxlook_at_number : Array (Option Value)} {ocxlook_at_number kVxlook_at_number dcxlook_at_number pmxlook_at_number cdxlook_at_number ctxlook_at_number : Value} {fxtraced : Addr} {odxtraced anxtraced : Option Addr} {slxtraced : Array (Option Value)} {ocxtraced kVxtraced dcxtraced pmxtraced cdxtraced ctxtraced : Value} {fxbetween : Addr} {odxbetween anxbetween : Option Addr} {slxbetween : Array (Option Value)} {ocxbetween kVxbetween dcxbetween pmxbetween cdxbetween ctxbetween : Value} {fxday : Addr} {odxday anxday : Option Addr} {slxday : Array (Option Value)} {ocxday kVxday dcxday pmxday cdxday ctxday : Value} {fx_law_stops : Addr} {odx_law_stops anx_law_stops : Option Addr} {slx_law_stops : Array (Option Value)} {ocx_law_stops kVx_law_stops dcx_law_stops pmx_law_stops cdx_law_stops ctx_law_stops : Value} {fx_law_walked : Addr} {odx_law_walked anx_law_walked : Option Addr} {slx_law_walked : Array (Option Value)} {ocx_law_walked kVx_law_walked dcx_law_walked pmx_law_walked cdx_law_walked ctx_law_walked : Value} {fx_law_done : Addr} {odx_law_done anx_law_done : Option Addr} {slx_law_done : Array (Option Value)} {ocx_law_done kVx_law_done dcx_law_done pmx_law_done cdx_law_done ctx_law_done : Value} {fxlook_at_place : Addr} {odxlook_at_place anxlook_at_place : Option Addr} {slxlook_at_place : Array (Option Value)} {ocxlook_at_place kVxlook_at_place dcxlook_at_place pmxlook_at_place cdxlook_at_place ctxlook_at_place : Value} {fxspread : Addr} {odxspread anxspread : Option Addr} {slxspread : Array (Option Value)} {ocxspread kVxspread dcxspread pmxspread cdxspread ctxspread : Value} {fx_law_far : Addr} {odx_law_far anx_law_far : Option Addr} {slx_law_far : Array (Option Value)} {ocx_law_far kVx_law_far dcx_law_far pmx_law_far cdx_law_far ctx_law_far : Value} {fx_law_apart : Addr} {odx_law_apart anx_law_apart : Option Addr} {slx_law_apart : Array (Option Value)} {ocx_law_apart kVx_law_apart dcx_law_apart pmx_law_apart cdx_law_apart ctx_law_apart : Value} {fxlaw : Addr} {odxlaw anxlaw : Option Addr} {slxlaw : Array (Option Value)} {ocxlaw kVxlaw dcxlaw pmxlaw cdxlaw ctxlaw : Value} {tLETTERS : Tok} {tLONGEST_NAME : Tok} {tLAST_MINUTE : Tok} {tLONGEST_RIDE : Tok} {CNotInTime : Addr}
    (ax_law_cell_at : PySem.W.nsIn K mainGlobals "_law_cell_at" = some (some (.ref fx_law_cell_at))) (lx_law_cell_at : K.lookup fx_law_cell_at = some ⟨ocx_law_cell_at, odx_law_cell_at, .func (PySem.W.fnOf "_law_cell_at" "_law_cell_at" (defArgs s__law_cell_at) (defBody s__law_cell_at) (defScope s__law_cell_at) .none kVx_law_cell_at dcx_law_cell_at pmx_law_cell_at anx_law_cell_at cdx_law_cell_at ctx_law_cell_at), slx_law_cell_at⟩) (cx_law_cell_at : PySem.W.codeIn K cdx_law_cell_at "_law_cell_at" = true) (kx_law_cell_at : PySem.W.keepIn K (.ref fx_law_cell_at) = true)
    (ax_law_names : PySem.W.nsIn K mainGlobals "_law_names" = some (some (.ref fx_law_names))) (lx_law_names : K.lookup fx_law_names = some ⟨ocx_law_names, odx_law_names, .func (PySem.W.fnOf "_law_names" "_law_names" (defArgs s__law_names) (defBody s__law_names) (defScope s__law_names) .none kVx_law_names dcx_law_names pmx_law_names anx_law_names cdx_law_names ctx_law_names), slx_law_names⟩) (cx_law_names : PySem.W.codeIn K cdx_law_names "_law_names" = true) (kx_law_names : PySem.W.keepIn K (.ref fx_law_names) = true)
    (ax_law_rides : PySem.W.nsIn K mainGlobals "_law_rides" = some (some (.ref fx_law_rides))) (lx_law_rides : K.lookup fx_law_rides = some ⟨ocx_law_rides, odx_law_rides, .func (PySem.W.fnOf "_law_rides" "_law_rides" (defArgs s__law_rides) (defBody s__law_rides) (defScope s__law_rides) .none kVx_law_rides dcx_law_rides pmx_law_rides anx_law_rides cdx_law_rides ctx_law_rides), slx_law_rides⟩) (cx_law_rides : PySem.W.codeIn K cdx_law_rides "_law_rides" = true) (kx_law_rides : PySem.W.keepIn K (.ref fx_law_rides) = true)
    (ax_law_trips : PySem.W.nsIn K mainGlobals "_law_trips" = some (some (.ref fx_law_trips))) (lx_law_trips : K.lookup fx_law_trips = some ⟨ocx_law_trips, odx_law_trips, .func (PySem.W.fnOf "_law_trips" "_law_trips" (defArgs s__law_trips) (defBody s__law_trips) (defScope s__law_trips) .none kVx_law_trips dcx_law_trips pmx_law_trips anx_law_trips cdx_law_trips ctx_law_trips), slx_law_trips⟩) (cx_law_trips : PySem.W.codeIn K cdx_law_trips "_law_trips" = true) (kx_law_trips : PySem.W.keepIn K (.ref fx_law_trips) = true)
    (ax_law_built : PySem.W.nsIn K mainGlobals "_law_built" = some (some (.ref fx_law_built))) (lx_law_built : K.lookup fx_law_built = some ⟨ocx_law_built, odx_law_built, .func (PySem.W.fnOf "_law_built" "_law_built" (defArgs s__law_built) (defBody s__law_built) (defScope s__law_built) .none kVx_law_built dcx_law_built pmx_law_built anx_law_built cdx_law_built ctx_law_built), slx_law_built⟩) (cx_law_built : PySem.W.codeIn K cdx_law_built "_law_built" = true) (kx_law_built : PySem.W.keepIn K (.ref fx_law_built) = true)
    (ax_law_roads : PySem.W.nsIn K mainGlobals "_law_roads" = some (some (.ref fx_law_roads))) (lx_law_roads : K.lookup fx_law_roads = some ⟨ocx_law_roads, odx_law_roads, .func (PySem.W.fnOf "_law_roads" "_law_roads" (defArgs s__law_roads) (defBody s__law_roads) (defScope s__law_roads) .none kVx_law_roads dcx_law_roads pmx_law_roads anx_law_roads cdx_law_roads ctx_law_roads), slx_law_roads⟩) (cx_law_roads : PySem.W.codeIn K cdx_law_roads "_law_roads" = true) (kx_law_roads : PySem.W.keepIn K (.ref fx_law_roads) = true)
    (axis_place : PySem.W.nsIn K mainGlobals "is_place" = some (some (.ref fxis_place))) (lxis_place : K.lookup fxis_place = some ⟨ocxis_place, odxis_place, .func (PySem.W.fnOf "is_place" "is_place" (defArgs s_is_place) (defBody s_is_place) (defScope s_is_place) .none kVxis_place dcxis_place pmxis_place anxis_place cdxis_place ctxis_place), slxis_place⟩) (cxis_place : PySem.W.codeIn K cdxis_place "is_place" = true) (kxis_place : PySem.W.keepIn K (.ref fxis_place) = true)
    (axis_whole : PySem.W.nsIn K mainGlobals "is_whole" = some (some (.ref fxis_whole))) (lxis_whole : K.lookup fxis_whole = some ⟨ocxis_whole, odxis_whole, .func (PySem.W.fnOf "is_whole" "is_whole" (defArgs s_is_whole) (defBody s_is_whole) (defScope s_is_whole) .none kVxis_whole dcxis_whole pmxis_whole anxis_whole cdxis_whole ctxis_whole), slxis_whole⟩) (cxis_whole : PySem.W.codeIn K cdxis_whole "is_whole" = true) (kxis_whole : PySem.W.keepIn K (.ref fxis_whole) = true)
    (axis_ride : PySem.W.nsIn K mainGlobals "is_ride" = some (some (.ref fxis_ride))) (lxis_ride : K.lookup fxis_ride = some ⟨ocxis_ride, odxis_ride, .func (PySem.W.fnOf "is_ride" "is_ride" (defArgs s_is_ride) (defBody s_is_ride) (defScope s_is_ride) .none kVxis_ride dcxis_ride pmxis_ride anxis_ride cdxis_ride ctxis_ride), slxis_ride⟩) (cxis_ride : PySem.W.codeIn K cdxis_ride "is_ride" = true) (kxis_ride : PySem.W.keepIn K (.ref fxis_ride) = true)
    (axis_trip : PySem.W.nsIn K mainGlobals "is_trip" = some (some (.ref fxis_trip))) (lxis_trip : K.lookup fxis_trip = some ⟨ocxis_trip, odxis_trip, .func (PySem.W.fnOf "is_trip" "is_trip" (defArgs s_is_trip) (defBody s_is_trip) (defScope s_is_trip) .none kVxis_trip dcxis_trip pmxis_trip anxis_trip cdxis_trip ctxis_trip), slxis_trip⟩) (cxis_trip : PySem.W.codeIn K cdxis_trip "is_trip" = true) (kxis_trip : PySem.W.keepIn K (.ref fxis_trip) = true)
    (axlook_at_lists : PySem.W.nsIn K mainGlobals "look_at_lists" = some (some (.ref fxlook_at_lists))) (lxlook_at_lists : K.lookup fxlook_at_lists = some ⟨ocxlook_at_lists, odxlook_at_lists, .func (PySem.W.fnOf "look_at_lists" "look_at_lists" (defArgs s_look_at_lists) (defBody s_look_at_lists) (defScope s_look_at_lists) .none kVxlook_at_lists dcxlook_at_lists pmxlook_at_lists anxlook_at_lists cdxlook_at_lists ctxlook_at_lists), slxlook_at_lists⟩) (cxlook_at_lists : PySem.W.codeIn K cdxlook_at_lists "look_at_lists" = true) (kxlook_at_lists : PySem.W.keepIn K (.ref fxlook_at_lists) = true)
    (axlaid_roads : PySem.W.nsIn K mainGlobals "laid_roads" = some (some (.ref fxlaid_roads))) (lxlaid_roads : K.lookup fxlaid_roads = some ⟨ocxlaid_roads, odxlaid_roads, .func (PySem.W.fnOf "laid_roads" "laid_roads" (defArgs s_laid_roads) (defBody s_laid_roads) (defScope s_laid_roads) .none kVxlaid_roads dcxlaid_roads pmxlaid_roads anxlaid_roads cdxlaid_roads ctxlaid_roads), slxlaid_roads⟩) (cxlaid_roads : PySem.W.codeIn K cdxlaid_roads "laid_roads" = true) (kxlaid_roads : PySem.W.keepIn K (.ref fxlaid_roads) = true)
    (axleaving : PySem.W.nsIn K mainGlobals "leaving" = some (some (.ref fxleaving))) (lxleaving : K.lookup fxleaving = some ⟨ocxleaving, odxleaving, .func (PySem.W.fnOf "leaving" "leaving" (defArgs s_leaving) (defBody s_leaving) (defScope s_leaving) .none kVxleaving dcxleaving pmxleaving anxleaving cdxleaving ctxleaving), slxleaving⟩) (cxleaving : PySem.W.codeIn K cdxleaving "leaving" = true) (kxleaving : PySem.W.keepIn K (.ref fxleaving) = true)
    (axexplored : PySem.W.nsIn K mainGlobals "explored" = some (some (.ref fxexplored))) (lxexplored : K.lookup fxexplored = some ⟨ocxexplored, odxexplored, .func (PySem.W.fnOf "explored" "explored" (defArgs s_explored) (defBody s_explored) (defScope s_explored) .none kVxexplored dcxexplored pmxexplored anxexplored cdxexplored ctxexplored), slxexplored⟩) (cxexplored : PySem.W.codeIn K cdxexplored "explored" = true) (kxexplored : PySem.W.keepIn K (.ref fxexplored) = true)
    (axin_time : PySem.W.nsIn K mainGlobals "in_time" = some (some (.ref fxin_time))) (lxin_time : K.lookup fxin_time = some ⟨ocxin_time, odxin_time, .func (PySem.W.fnOf "in_time" "in_time" (defArgs s_in_time) (defBody s_in_time) (defScope s_in_time) .none kVxin_time dcxin_time pmxin_time anxin_time cdxin_time ctxin_time), slxin_time⟩) (cxin_time : PySem.W.codeIn K cdxin_time "in_time" = true) (kxin_time : PySem.W.keepIn K (.ref fxin_time) = true)
    (axfollowing : PySem.W.nsIn K mainGlobals "following" = some (some (.ref fxfollowing))) (lxfollowing : K.lookup fxfollowing = some ⟨ocxfollowing, odxfollowing, .func (PySem.W.fnOf "following" "following" (defArgs s_following) (defBody s_following) (defScope s_following) .none kVxfollowing dcxfollowing pmxfollowing anxfollowing cdxfollowing ctxfollowing), slxfollowing⟩) (cxfollowing : PySem.W.codeIn K cdxfollowing "following" = true) (kxfollowing : PySem.W.keepIn K (.ref fxfollowing) = true)
    (axfollowers : PySem.W.nsIn K mainGlobals "followers" = some (some (.ref fxfollowers))) (lxfollowers : K.lookup fxfollowers = some ⟨ocxfollowers, odxfollowers, .func (PySem.W.fnOf "followers" "followers" (defArgs s_followers) (defBody s_followers) (defScope s_followers) .none kVxfollowers dcxfollowers pmxfollowers anxfollowers cdxfollowers ctxfollowers), slxfollowers⟩) (cxfollowers : PySem.W.codeIn K cdxfollowers "followers" = true) (kxfollowers : PySem.W.keepIn K (.ref fxfollowers) = true)
    (axmeant_for : PySem.W.nsIn K mainGlobals "meant_for" = some (some (.ref fxmeant_for))) (lxmeant_for : K.lookup fxmeant_for = some ⟨ocxmeant_for, odxmeant_for, .func (PySem.W.fnOf "meant_for" "meant_for" (defArgs s_meant_for) (defBody s_meant_for) (defScope s_meant_for) .none kVxmeant_for dcxmeant_for pmxmeant_for anxmeant_for cdxmeant_for ctxmeant_for), slxmeant_for⟩) (cxmeant_for : PySem.W.codeIn K cdxmeant_for "meant_for" = true) (kxmeant_for : PySem.W.keepIn K (.ref fxmeant_for) = true)
    (axpair_anew : PySem.W.nsIn K mainGlobals "pair_anew" = some (some (.ref fxpair_anew))) (lxpair_anew : K.lookup fxpair_anew = some ⟨ocxpair_anew, odxpair_anew, .func (PySem.W.fnOf "pair_anew" "pair_anew" (defArgs s_pair_anew) (defBody s_pair_anew) (defScope s_pair_anew) .none kVxpair_anew dcxpair_anew pmxpair_anew anxpair_anew cdxpair_anew ctxpair_anew), slxpair_anew⟩) (cxpair_anew : PySem.W.codeIn K cdxpair_anew "pair_anew" = true) (kxpair_anew : PySem.W.keepIn K (.ref fxpair_anew) = true)
    (axpaired : PySem.W.nsIn K mainGlobals "paired" = some (some (.ref fxpaired))) (lxpaired : K.lookup fxpaired = some ⟨ocxpaired, odxpaired, .func (PySem.W.fnOf "paired" "paired" (defArgs s_paired) (defBody s_paired) (defScope s_paired) .none kVxpaired dcxpaired pmxpaired anxpaired cdxpaired ctxpaired), slxpaired⟩) (cxpaired : PySem.W.codeIn K cdxpaired "paired" = true) (kxpaired : PySem.W.keepIn K (.ref fxpaired) = true)
    (axrow_from : PySem.W.nsIn K mainGlobals "row_from" = some (some (.ref fxrow_from))) (lxrow_from : K.lookup fxrow_from = some ⟨ocxrow_from, odxrow_from, .func (PySem.W.fnOf "row_from" "row_from" (defArgs s_row_from) (defBody s_row_from) (defScope s_row_from) .none kVxrow_from dcxrow_from pmxrow_from anxrow_from cdxrow_from ctxrow_from), slxrow_from⟩) (cxrow_from : PySem.W.codeIn K cdxrow_from "row_from" = true) (kxrow_from : PySem.W.keepIn K (.ref fxrow_from) = true)
    (axstanding_apart : PySem.W.nsIn K mainGlobals "standing_apart" = some (some (.ref fxstanding_apart))) (lxstanding_apart : K.lookup fxstanding_apart = some ⟨ocxstanding_apart, odxstanding_apart, .func (PySem.W.fnOf "standing_apart" "standing_apart" (defArgs s_standing_apart) (defBody s_standing_apart) (defScope s_standing_apart) .none kVxstanding_apart dcxstanding_apart pmxstanding_apart anxstanding_apart cdxstanding_apart ctxstanding_apart), slxstanding_apart⟩) (cxstanding_apart : PySem.W.codeIn K cdxstanding_apart "standing_apart" = true) (kxstanding_apart : PySem.W.keepIn K (.ref fxstanding_apart) = true)
    (axplan : PySem.W.nsIn K mainGlobals "plan" = some (some (.ref fxplan))) (lxplan : K.lookup fxplan = some ⟨ocxplan, odxplan, .func (PySem.W.fnOf "plan" "plan" (defArgs s_plan) (defBody s_plan) (defScope s_plan) .none kVxplan dcxplan pmxplan anxplan cdxplan ctxplan), slxplan⟩) (cxplan : PySem.W.codeIn K cdxplan "plan" = true) (kxplan : PySem.W.keepIn K (.ref fxplan) = true)
    (ax_law_whole : PySem.W.nsIn K mainGlobals "_law_whole" = some (some (.ref fx_law_whole))) (lx_law_whole : K.lookup fx_law_whole = some ⟨ocx_law_whole, odx_law_whole, .func (PySem.W.fnOf "_law_whole" "_law_whole" (defArgs s__law_whole) (defBody s__law_whole) (defScope s__law_whole) .none kVx_law_whole dcx_law_whole pmx_law_whole anx_law_whole cdx_law_whole ctx_law_whole), slx_law_whole⟩) (cx_law_whole : PySem.W.codeIn K cdx_law_whole "_law_whole" = true) (kx_law_whole : PySem.W.keepIn K (.ref fx_law_whole) = true)
    (axis_number : PySem.W.nsIn K mainGlobals "is_number" = some (some (.ref fxis_number))) (lxis_number : K.lookup fxis_number = some ⟨ocxis_number, odxis_number, .func (PySem.W.fnOf "is_number" "is_number" (defArgs s_is_number) (defBody s_is_number) (defScope s_is_number) .none kVxis_number dcxis_number pmxis_number anxis_number cdxis_number ctxis_number), slxis_number⟩) (cxis_number : PySem.W.codeIn K cdxis_number "is_number" = true) (kxis_number : PySem.W.keepIn K (.ref fxis_number) = true)
    (axlook_at_number : PySem.W.nsIn K mainGlobals "look_at_number" = some (some (.ref fxlook_at_number))) (lxlook_at_number : K.lookup fxlook_at_number = some ⟨ocxlook_at_number, odxlook_at_number, .func (PySem.W.fnOf "look_at_number" "look_at_number" (defArgs s_look_at_number) (defBody s_look_at_number) (defScope s_look_at_number) .none kVxlook_at_number dcxlook_at_number pmxlook_at_number anxlook_at_number cdxlook_at_number ctxlook_at_number), slxlook_at_number⟩) (cxlook_at_number : PySem.W.codeIn K cdxlook_at_number "look_at_number" = true) (kxlook_at_number : PySem.W.keepIn K (.ref fxlook_at_number) = true)
    (axtraced : PySem.W.nsIn K mainGlobals "traced" = some (some (.ref fxtraced))) (lxtraced : K.lookup fxtraced = some ⟨ocxtraced, odxtraced, .func (PySem.W.fnOf "traced" "traced" (defArgs s_traced) (defBody s_traced) (defScope s_traced) .none kVxtraced dcxtraced pmxtraced anxtraced cdxtraced ctxtraced), slxtraced⟩) (cxtraced : PySem.W.codeIn K cdxtraced "traced" = true) (kxtraced : PySem.W.keepIn K (.ref fxtraced) = true)
    (axbetween : PySem.W.nsIn K mainGlobals "between" = some (some (.ref fxbetween))) (lxbetween : K.lookup fxbetween = some ⟨ocxbetween, odxbetween, .func (PySem.W.fnOf "between" "between" (defArgs s_between) (defBody s_between) (defScope s_between) .none kVxbetween dcxbetween pmxbetween anxbetween cdxbetween ctxbetween), slxbetween⟩) (cxbetween : PySem.W.codeIn K cdxbetween "between" = true) (kxbetween : PySem.W.keepIn K (.ref fxbetween) = true)
    (axday : PySem.W.nsIn K mainGlobals "day" = some (some (.ref fxday))) (lxday : K.lookup fxday = some ⟨ocxday, odxday, .func (PySem.W.fnOf "day" "day" (defArgs s_day) (defBody s_day) (defScope s_day) .none kVxday dcxday pmxday anxday cdxday ctxday), slxday⟩) (cxday : PySem.W.codeIn K cdxday "day" = true) (kxday : PySem.W.keepIn K (.ref fxday) = true)
    (ax_law_stops : PySem.W.nsIn K mainGlobals "_law_stops" = some (some (.ref fx_law_stops))) (lx_law_stops : K.lookup fx_law_stops = some ⟨ocx_law_stops, odx_law_stops, .func (PySem.W.fnOf "_law_stops" "_law_stops" (defArgs s__law_stops) (defBody s__law_stops) (defScope s__law_stops) .none kVx_law_stops dcx_law_stops pmx_law_stops anx_law_stops cdx_law_stops ctx_law_stops), slx_law_stops⟩) (cx_law_stops : PySem.W.codeIn K cdx_law_stops "_law_stops" = true) (kx_law_stops : PySem.W.keepIn K (.ref fx_law_stops) = true)
    (ax_law_walked : PySem.W.nsIn K mainGlobals "_law_walked" = some (some (.ref fx_law_walked))) (lx_law_walked : K.lookup fx_law_walked = some ⟨ocx_law_walked, odx_law_walked, .func (PySem.W.fnOf "_law_walked" "_law_walked" (defArgs s__law_walked) (defBody s__law_walked) (defScope s__law_walked) .none kVx_law_walked dcx_law_walked pmx_law_walked anx_law_walked cdx_law_walked ctx_law_walked), slx_law_walked⟩) (cx_law_walked : PySem.W.codeIn K cdx_law_walked "_law_walked" = true) (kx_law_walked : PySem.W.keepIn K (.ref fx_law_walked) = true)
    (ax_law_done : PySem.W.nsIn K mainGlobals "_law_done" = some (some (.ref fx_law_done))) (lx_law_done : K.lookup fx_law_done = some ⟨ocx_law_done, odx_law_done, .func (PySem.W.fnOf "_law_done" "_law_done" (defArgs s__law_done) (defBody s__law_done) (defScope s__law_done) .none kVx_law_done dcx_law_done pmx_law_done anx_law_done cdx_law_done ctx_law_done), slx_law_done⟩) (cx_law_done : PySem.W.codeIn K cdx_law_done "_law_done" = true) (kx_law_done : PySem.W.keepIn K (.ref fx_law_done) = true)
    (axlook_at_place : PySem.W.nsIn K mainGlobals "look_at_place" = some (some (.ref fxlook_at_place))) (lxlook_at_place : K.lookup fxlook_at_place = some ⟨ocxlook_at_place, odxlook_at_place, .func (PySem.W.fnOf "look_at_place" "look_at_place" (defArgs s_look_at_place) (defBody s_look_at_place) (defScope s_look_at_place) .none kVxlook_at_place dcxlook_at_place pmxlook_at_place anxlook_at_place cdxlook_at_place ctxlook_at_place), slxlook_at_place⟩) (cxlook_at_place : PySem.W.codeIn K cdxlook_at_place "look_at_place" = true) (kxlook_at_place : PySem.W.keepIn K (.ref fxlook_at_place) = true)
    (axspread : PySem.W.nsIn K mainGlobals "spread" = some (some (.ref fxspread))) (lxspread : K.lookup fxspread = some ⟨ocxspread, odxspread, .func (PySem.W.fnOf "spread" "spread" (defArgs s_spread) (defBody s_spread) (defScope s_spread) .none kVxspread dcxspread pmxspread anxspread cdxspread ctxspread), slxspread⟩) (cxspread : PySem.W.codeIn K cdxspread "spread" = true) (kxspread : PySem.W.keepIn K (.ref fxspread) = true)
    (ax_law_far : PySem.W.nsIn K mainGlobals "_law_far" = some (some (.ref fx_law_far))) (lx_law_far : K.lookup fx_law_far = some ⟨ocx_law_far, odx_law_far, .func (PySem.W.fnOf "_law_far" "_law_far" (defArgs s__law_far) (defBody s__law_far) (defScope s__law_far) .none kVx_law_far dcx_law_far pmx_law_far anx_law_far cdx_law_far ctx_law_far), slx_law_far⟩) (cx_law_far : PySem.W.codeIn K cdx_law_far "_law_far" = true) (kx_law_far : PySem.W.keepIn K (.ref fx_law_far) = true)
    (ax_law_apart : PySem.W.nsIn K mainGlobals "_law_apart" = some (some (.ref fx_law_apart))) (lx_law_apart : K.lookup fx_law_apart = some ⟨ocx_law_apart, odx_law_apart, .func (PySem.W.fnOf "_law_apart" "_law_apart" (defArgs s__law_apart) (defBody s__law_apart) (defScope s__law_apart) .none kVx_law_apart dcx_law_apart pmx_law_apart anx_law_apart cdx_law_apart ctx_law_apart), slx_law_apart⟩) (cx_law_apart : PySem.W.codeIn K cdx_law_apart "_law_apart" = true) (kx_law_apart : PySem.W.keepIn K (.ref fx_law_apart) = true)
    (axlaw : PySem.W.nsIn K mainGlobals "law" = some (some (.ref fxlaw))) (lxlaw : K.lookup fxlaw = some ⟨ocxlaw, odxlaw, .func (PySem.W.fnOf "law" "law" (defArgs s_law) (defBody s_law) (defScope s_law) .none kVxlaw dcxlaw pmxlaw anxlaw cdxlaw ctxlaw), slxlaw⟩) (cxlaw : PySem.W.codeIn K cdxlaw "law" = true) (kxlaw : PySem.W.keepIn K (.ref fxlaw) = true)
    (mLETTERS : PySem.W.nsIn K mainGlobals "LETTERS" = some (some (.str letters tLETTERS)))
    (mLONGEST_NAME : PySem.W.nsIn K mainGlobals "LONGEST_NAME" = some (some (.int 12 tLONGEST_NAME)))
    (mLAST_MINUTE : PySem.W.nsIn K mainGlobals "LAST_MINUTE" = some (some (.int 99999 tLAST_MINUTE)))
    (mLONGEST_RIDE : PySem.W.nsIn K mainGlobals "LONGEST_RIDE" = some (some (.int 9999 tLONGEST_RIDE)))
    (mheappop : PySem.W.nsIn K mainGlobals "heappop" = some (some (.builtin "_heapq.heappop")))
    (mheappush : PySem.W.nsIn K mainGlobals "heappush" = some (some (.builtin "_heapq.heappush")))
    (aXNotInTime : PySem.W.nsIn K mainGlobals "NotInTime" = some (some (.ref CNotInTime)))
    (qXNotInTime : PySem.W.excIn K CNotInTime [.type "ValueError", .type "Exception", .type "BaseException", .type "object"] "ValueError.__new__" = true)
    (kXNotInTime : PySem.W.keepIn K (.ref CNotInTime) = true)
    (bXNotInTime : PySem.W.subIn K (.ref CNotInTime) (.type "BaseException") = some true)
    (tXNotInTime : PySem.W.typeIn K (.ref CNotInTime) = some (.type "type"))
    (uXNotInTime : PySem.W.findIn K (.ref CNotInTime) "__getattribute__" = some (some (.builtin "BaseException.__getattribute__")))
    (wXNotInTime : PySem.W.findIn K (.ref CNotInTime) "__getattr__" = some none)
    (dXNotInTime : PySem.W.hasDictIn K CNotInTime = true)
    (eXNotInTime : PySem.W.findIn K (.ref CNotInTime) "__class__" = some (some (.builtin "object.__class__")))
    (oXNotInTime : PySem.W.mroIn K CNotInTime (.type "object") = some true)
    (iXNotInTime : PySem.W.isClsIn K CNotInTime = true)
    (hnX : PySem.W.specialIn K (.builtin "object.__class__") "__get__" = some (some (.builtin "getset_descriptor.__get__"))) (htX : PySem.W.takesIn K (.builtin "object.__class__") = some true)
    (zall : PySem.W.nsIn K mainGlobals "all" = some none)
    (zisinstance : PySem.W.nsIn K mainGlobals "isinstance" = some none)
    (zstr : PySem.W.nsIn K mainGlobals "str" = some none)
    (zlen : PySem.W.nsIn K mainGlobals "len" = some none)
    (zbool : PySem.W.nsIn K mainGlobals "bool" = some none)
    (zint : PySem.W.nsIn K mainGlobals "int" = some none)
    (ztuple : PySem.W.nsIn K mainGlobals "tuple" = some none)
    (zenumerate : PySem.W.nsIn K mainGlobals "enumerate" = some none)
    (zlist : PySem.W.nsIn K mainGlobals "list" = some none)
    (zrange : PySem.W.nsIn K mainGlobals "range" = some none)
    (zmax : PySem.W.nsIn K mainGlobals "max" = some none)
    (zmin : PySem.W.nsIn K mainGlobals "min" = some none)
    (zdict : PySem.W.nsIn K mainGlobals "dict" = some none)
    (zsorted : PySem.W.nsIn K mainGlobals "sorted" = some none) :
    ∃ fd : FuncData, (∀ (s : Shared) (v : Value), BindsTo s fd ⟨[v], []⟩ [("_law_script", v)]) ∧ ∀ base : Heap, K.In base → base.Ns mainGlobals mg → FnOk l.prog w K mg base CX0 6 fa fd ["_law_script"] (spLaw K) := by
  have e := hfa.symm.trans (PySem.W.mg_of X G axlaw)
  cases e
  have hb : Bl mg := fun x hx => by
    simp only [List.mem_cons, List.not_mem_nil, or_false] at hx
    rcases hx with rfl | rfl | rfl | rfl | rfl | rfl | rfl | rfl | rfl | rfl | rfl | rfl | rfl | rfl
    · exact PySem.W.mg_none_of X G zall
    · exact PySem.W.mg_none_of X G zisinstance
    · exact PySem.W.mg_none_of X G zstr
    · exact PySem.W.mg_none_of X G zlen
    · exact PySem.W.mg_none_of X G zbool
    · exact PySem.W.mg_none_of X G zint
    · exact PySem.W.mg_none_of X G ztuple
    · exact PySem.W.mg_none_of X G zenumerate
    · exact PySem.W.mg_none_of X G zlist
    · exact PySem.W.mg_none_of X G zrange
    · exact PySem.W.mg_none_of X G zmax
    · exact PySem.W.mg_none_of X G zmin
    · exact PySem.W.mg_none_of X G zdict
    · exact PySem.W.mg_none_of X G zsorted
  have gLETTERS := PySem.W.mg_of X G mLETTERS
  have gLONGEST_NAME := PySem.W.mg_of X G mLONGEST_NAME
  have gLAST_MINUTE := PySem.W.mg_of X G mLAST_MINUTE
  have gLONGEST_RIDE := PySem.W.mg_of X G mLONGEST_RIDE
  have gheappop := PySem.W.mg_of X G mheappop
  have gheappush := PySem.W.mg_of X G mheappush
  have gNotInTime : ExcFull K mg "NotInTime" CNotInTime := ⟨⟨PySem.W.mg_of X G aXNotInTime, qXNotInTime, kXNotInTime, bXNotInTime, tXNotInTime⟩, ⟨uXNotInTime, wXNotInTime, bXNotInTime, dXNotInTime, eXNotInTime, hnX, htX, oXNotInTime⟩, iXNotInTime⟩
  have F__law_cell_at := fun_mk (st := s__law_cell_at) lx_law_cell_at cx_law_cell_at kx_law_cell_at
  have F__law_names := fun_mk (st := s__law_names) lx_law_names cx_law_names kx_law_names
  have F__law_rides := fun_mk (st := s__law_rides) lx_law_rides cx_law_rides kx_law_rides
  have F__law_trips := fun_mk (st := s__law_trips) lx_law_trips cx_law_trips kx_law_trips
  have F__law_built := fun_mk (st := s__law_built) lx_law_built cx_law_built kx_law_built
  have F__law_roads := fun_mk (st := s__law_roads) lx_law_roads cx_law_roads kx_law_roads
  have F_is_place := fun_mk (st := s_is_place) lxis_place cxis_place kxis_place
  have F_is_whole := fun_mk (st := s_is_whole) lxis_whole cxis_whole kxis_whole
  have F_is_ride := fun_mk (st := s_is_ride) lxis_ride cxis_ride kxis_ride
  have F_is_trip := fun_mk (st := s_is_trip) lxis_trip cxis_trip kxis_trip
  have F_look_at_lists := fun_mk (st := s_look_at_lists) lxlook_at_lists cxlook_at_lists kxlook_at_lists
  have F_laid_roads := fun_mk (st := s_laid_roads) lxlaid_roads cxlaid_roads kxlaid_roads
  have F_leaving := fun_mk (st := s_leaving) lxleaving cxleaving kxleaving
  have F_explored := fun_mk (st := s_explored) lxexplored cxexplored kxexplored
  have F_in_time := fun_mk (st := s_in_time) lxin_time cxin_time kxin_time
  have F_following := fun_mk (st := s_following) lxfollowing cxfollowing kxfollowing
  have F_followers := fun_mk (st := s_followers) lxfollowers cxfollowers kxfollowers
  have F_meant_for := fun_mk (st := s_meant_for) lxmeant_for cxmeant_for kxmeant_for
  have F_pair_anew := fun_mk (st := s_pair_anew) lxpair_anew cxpair_anew kxpair_anew
  have F_paired := fun_mk (st := s_paired) lxpaired cxpaired kxpaired
  have F_row_from := fun_mk (st := s_row_from) lxrow_from cxrow_from kxrow_from
  have F_standing_apart := fun_mk (st := s_standing_apart) lxstanding_apart cxstanding_apart kxstanding_apart
  have F_plan := fun_mk (st := s_plan) lxplan cxplan kxplan
  have F__law_whole := fun_mk (st := s__law_whole) lx_law_whole cx_law_whole kx_law_whole
  have F_is_number := fun_mk (st := s_is_number) lxis_number cxis_number kxis_number
  have F_look_at_number := fun_mk (st := s_look_at_number) lxlook_at_number cxlook_at_number kxlook_at_number
  have F_traced := fun_mk (st := s_traced) lxtraced cxtraced kxtraced
  have F_between := fun_mk (st := s_between) lxbetween cxbetween kxbetween
  have F_day := fun_mk (st := s_day) lxday cxday kxday
  have F__law_stops := fun_mk (st := s__law_stops) lx_law_stops cx_law_stops kx_law_stops
  have F__law_walked := fun_mk (st := s__law_walked) lx_law_walked cx_law_walked kx_law_walked
  have F__law_done := fun_mk (st := s__law_done) lx_law_done cx_law_done kx_law_done
  have F_look_at_place := fun_mk (st := s_look_at_place) lxlook_at_place cxlook_at_place kxlook_at_place
  have F_spread := fun_mk (st := s_spread) lxspread cxspread kxspread
  have F__law_far := fun_mk (st := s__law_far) lx_law_far cx_law_far kx_law_far
  have F__law_apart := fun_mk (st := s__law_apart) lx_law_apart cx_law_apart kx_law_apart
  have F_law := fun_mk (st := s_law) lxlaw cxlaw kxlaw
  have b__law_cell_at := F__law_cell_at.binds (ps := ["_law_script", "_law_k"]) fun _ _ _ _ _ _ us hl => match us, hl with | [_, _], _ => rfl
  have b__law_names := F__law_names.binds (ps := ["_law_cell", "_law_many"]) fun _ _ _ _ _ _ us hl => match us, hl with | [_, _], _ => rfl
  have b__law_rides := F__law_rides.binds (ps := ["_law_script", "_law_place", "_law_names_here", "_law_size"]) fun _ _ _ _ _ _ us hl => match us, hl with | [_, _, _, _], _ => rfl
  have b__law_trips := F__law_trips.binds (ps := ["_law_script", "_law_place", "_law_names_here", "_law_size"]) fun _ _ _ _ _ _ us hl => match us, hl with | [_, _, _, _], _ => rfl
  have b__law_built := F__law_built.binds (ps := ["_law_script"]) fun _ _ _ _ _ _ us hl => match us, hl with | [_], _ => rfl
  have b__law_roads := F__law_roads.binds (ps := ["_law_rides_here", "_law_trips_here"]) fun _ _ _ _ _ _ us hl => match us, hl with | [_, _], _ => rfl
  have b_is_place := F_is_place.binds (ps := ["thing"]) fun _ _ _ _ _ _ us hl => match us, hl with | [_], _ => rfl
  have b_is_whole := F_is_whole.binds (ps := ["thing", "least", "most"]) fun _ _ _ _ _ _ us hl => match us, hl with | [_, _, _], _ => rfl
  have b_is_ride := F_is_ride.binds (ps := ["thing"]) fun _ _ _ _ _ _ us hl => match us, hl with | [_], _ => rfl
  have b_is_trip := F_is_trip.binds (ps := ["thing"]) fun _ _ _ _ _ _ us hl => match us, hl with | [_], _ => rfl
  have b_look_at_lists := F_look_at_lists.binds (ps := ["rides", "trips"]) fun _ _ _ _ _ _ us hl => match us, hl with | [_, _], _ => rfl
  have b_laid_roads := F_laid_roads.binds (ps := ["rides", "trips"]) fun _ _ _ _ _ _ us hl => match us, hl with | [_, _], _ => rfl
  have b_leaving := F_leaving.binds (ps := ["laid"]) fun _ _ _ _ _ _ us hl => match us, hl with | [_], _ => rfl
  have b_explored := F_explored.binds (ps := ["laid", "place"]) fun _ _ _ _ _ _ us hl => match us, hl with | [_, _], _ => rfl
  have b_in_time := F_in_time.binds (ps := ["found", "trip", "later"]) fun _ _ _ _ _ _ us hl => match us, hl with | [_, _, _], _ => rfl
  have b_following := F_following.binds (ps := ["laid", "trips", "trip"]) fun _ _ _ _ _ _ us hl => match us, hl with | [_, _, _], _ => rfl
  have b_followers := F_followers.binds (ps := ["rides", "trips"]) fun _ _ _ _ _ _ us hl => match us, hl with | [_, _], _ => rfl
  have b_meant_for := F_meant_for.binds (ps := ["behind", "ahead", "wanting"]) fun _ _ _ _ _ _ us hl => match us, hl with | [_, _, _], _ => rfl
  have b_pair_anew := F_pair_anew.binds (ps := ["nexts", "ahead", "found", "free"]) fun _ _ _ _ _ _ us hl => match us, hl with | [_, _, _, _], _ => rfl
  have b_paired := F_paired.binds (ps := ["behind"]) fun _ _ _ _ _ _ us hl => match us, hl with | [_], _ => rfl
  have b_row_from := F_row_from.binds (ps := ["number", "nexts"]) fun _ _ _ _ _ _ us hl => match us, hl with | [_, _], _ => rfl
  have b_standing_apart := F_standing_apart.binds (ps := ["behind", "nexts", "ahead"]) fun _ _ _ _ _ _ us hl => match us, hl with | [_, _, _], _ => rfl
  have b_plan := F_plan.binds (ps := ["rides", "trips"]) fun _ _ _ _ _ _ us hl => match us, hl with | [_, _], _ => rfl
  have b__law_whole := F__law_whole.binds (ps := ["_law_found"]) fun _ _ _ _ _ _ us hl => match us, hl with | [_], _ => rfl
  have b_is_number := F_is_number.binds (ps := ["thing", "trips"]) fun _ _ _ _ _ _ us hl => match us, hl with | [_, _], _ => rfl
  have b_look_at_number := F_look_at_number.binds (ps := ["thing", "trips"]) fun _ _ _ _ _ _ us hl => match us, hl with | [_, _], _ => rfl
  have b_traced := F_traced.binds (ps := ["found", "one", "other"]) fun _ _ _ _ _ _ us hl => match us, hl with | [_, _, _], _ => rfl
  have b_between := F_between.binds (ps := ["laid", "trip", "later"]) fun _ _ _ _ _ _ us hl => match us, hl with | [_, _, _], _ => rfl
  have b_day := F_day.binds (ps := ["rides", "trips", "row"]) fun _ _ _ _ _ _ us hl => match us, hl with | [_, _, _], _ => rfl
  have b__law_stops := F__law_stops.binds (ps := ["_law_found"]) fun _ _ _ _ _ _ us hl => match us, hl with | [_], _ => rfl
  have b__law_walked := F__law_walked.binds (ps := ["_law_told", "_law_trips_here", "_law_row", "_law_stops_here"]) fun _ _ _ _ _ _ us hl => match us, hl with | [_, _, _, _], _ => rfl
  have b__law_done := F__law_done.binds (ps := ["_law_told", "_law_rides_here", "_law_trips_here", "_law_rows"]) fun _ _ _ _ _ _ us hl => match us, hl with | [_, _, _, _], _ => rfl
  have b_look_at_place := F_look_at_place.binds (ps := ["thing"]) fun _ _ _ _ _ _ us hl => match us, hl with | [_], _ => rfl
  have b_spread := F_spread.binds (ps := ["rides", "trips", "place"]) fun _ _ _ _ _ _ us hl => match us, hl with | [_, _, _], _ => rfl
  have b__law_far := F__law_far.binds (ps := ["_law_told", "_law_least", "_law_place"]) fun _ _ _ _ _ _ us hl => match us, hl with | [_, _, _], _ => rfl
  have b__law_apart := F__law_apart.binds (ps := ["_law_told", "_law_rides_here", "_law_trips_here", "_law_apart_here"]) fun _ _ _ _ _ _ us hl => match us, hl with | [_, _, _, _], _ => rfl
  have b_law := F_law.binds (ps := ["_law_script"]) fun _ _ _ _ _ _ us hl => match us, hl with | [_], _ => rfl
  refine ⟨PySem.W.fnOf "law" "law" (defArgs s_law) (defBody s_law) (defScope s_law) .none kVxlaw dcxlaw pmxlaw anxlaw cdxlaw ctxlaw, fun s v => .of_eq rfl, fun base _ _ => ?_⟩
  have C__law_cell_at := cal_mk (P := l.prog) (w := w) (base := base) F__law_cell_at (ok__law_cell_at (k := 0) F__law_cell_at hb) (PySem.W.mg_of X G ax_law_cell_at) b__law_cell_at
  have C__law_names := cal_mk (P := l.prog) (w := w) (base := base) F__law_names (ok__law_names (k := 0) F__law_names hb) (PySem.W.mg_of X G ax_law_names) b__law_names
  have C__law_rides := cal_mk (P := l.prog) (w := w) (base := base) F__law_rides (ok__law_rides (k := 1) F__law_rides hb (j := 1) (by decide) (C__law_cell_at.mono (by decide))) (PySem.W.mg_of X G ax_law_rides) b__law_rides
  have C__law_trips := cal_mk (P := l.prog) (w := w) (base := base) F__law_trips (ok__law_trips (k := 1) F__law_trips hb (j := 1) (by decide) (C__law_cell_at.mono (by decide))) (PySem.W.mg_of X G ax_law_trips) b__law_trips
  have C__law_built := cal_mk (P := l.prog) (w := w) (base := base) F__law_built (ok__law_built (k := 2) F__law_built hb (j := 2) (by decide) (C__law_cell_at.mono (by decide)) (C__law_names.mono (by decide)) (C__law_rides.mono (by decide)) (C__law_trips.mono (by decide))) (PySem.W.mg_of X G ax_law_built) b__law_built
  have C__law_roads := cal_mk (P := l.prog) (w := w) (base := base) F__law_roads (ok__law_roads (k := 0) F__law_roads hb) (PySem.W.mg_of X G ax_law_roads) b__law_roads
  have C_is_place := cal_mk (P := l.prog) (w := w) (base := base) F_is_place (ok_is_place (k := 0) F_is_place hb gLONGEST_NAME gLETTERS) (PySem.W.mg_of X G axis_place) b_is_place
  have C_is_whole := cal_mk (P := l.prog) (w := w) (base := base) F_is_whole (ok_is_whole (k := 0) F_is_whole hb) (PySem.W.mg_of X G axis_whole) b_is_whole
  have C_is_ride := cal_mk (P := l.prog) (w := w) (base := base) F_is_ride (ok_is_ride (k := 1) F_is_ride hb gLONGEST_RIDE (j := 1) (by decide) (C_is_place.mono (by decide)) (C_is_whole.mono (by decide))) (PySem.W.mg_of X G axis_ride) b_is_ride
  have C_is_trip := cal_mk (P := l.prog) (w := w) (base := base) F_is_trip (ok_is_trip (k := 1) F_is_trip hb gLAST_MINUTE (j := 1) (by decide) (C_is_place.mono (by decide)) (C_is_whole.mono (by decide))) (PySem.W.mg_of X G axis_trip) b_is_trip
  have C_look_at_lists := cal_mk (P := l.prog) (w := w) (base := base) F_look_at_lists (ok_look_at_lists (k := 2) F_look_at_lists hb (j := 2) (by decide) (C_is_ride.mono (by decide)) (C_is_trip.mono (by decide))) (PySem.W.mg_of X G axlook_at_lists) b_look_at_lists
  have C_laid_roads := cal_mk (P := l.prog) (w := w) (base := base) F_laid_roads (ok_laid_roads (k := 0) F_laid_roads hb) (PySem.W.mg_of X G axlaid_roads) b_laid_roads
  have C_leaving := cal_mk (P := l.prog) (w := w) (base := base) F_leaving (ok_leaving (k := 0) F_leaving hb) (PySem.W.mg_of X G axleaving) b_leaving
  have C_explored := cal_mk (P := l.prog) (w := w) (base := base) F_explored (ok_explored (k := 1) F_explored hb (j := 1) (by decide) (C_leaving.mono (by decide)) gheappop gheappush) (PySem.W.mg_of X G axexplored) b_explored
  have C_in_time := cal_mk (P := l.prog) (w := w) (base := base) F_in_time (ok_in_time (k := 0) F_in_time hb) (PySem.W.mg_of X G axin_time) b_in_time
  have C_following := cal_mk (P := l.prog) (w := w) (base := base) F_following (ok_following (k := 2) F_following hb (j := 2) (by decide) (C_explored.mono (by decide)) (C_in_time.mono (by decide))) (PySem.W.mg_of X G axfollowing) b_following
  have C_followers := cal_mk (P := l.prog) (w := w) (base := base) F_followers (ok_followers (k := 3) F_followers hb (j := 3) (by decide) (C_laid_roads.mono (by decide)) (C_following.mono (by decide))) (PySem.W.mg_of X G axfollowers) b_followers
  have C_meant_for := cal_mk (P := l.prog) (w := w) (base := base) F_meant_for (ok_meant_for (k := 0) F_meant_for hb) (PySem.W.mg_of X G axmeant_for) b_meant_for
  have C_pair_anew := cal_mk (P := l.prog) (w := w) (base := base) F_pair_anew (ok_pair_anew (k := 0) F_pair_anew hb) (PySem.W.mg_of X G axpair_anew) b_pair_anew
  have C_paired := cal_mk (P := l.prog) (w := w) (base := base) F_paired (ok_paired (k := 1) F_paired hb (j := 1) (by decide) (C_meant_for.mono (by decide)) (C_pair_anew.mono (by decide))) (PySem.W.mg_of X G axpaired) b_paired
  have C_row_from := cal_mk (P := l.prog) (w := w) (base := base) F_row_from (ok_row_from (k := 0) F_row_from hb) (PySem.W.mg_of X G axrow_from) b_row_from
  have C_standing_apart := cal_mk (P := l.prog) (w := w) (base := base) F_standing_apart (ok_standing_apart (k := 1) F_standing_apart hb (j := 1) (by decide) (C_meant_for.mono (by decide))) (PySem.W.mg_of X G axstanding_apart) b_standing_apart
  have C_plan := cal_mk (P := l.prog) (w := w) (base := base) F_plan ((ok_plan (k := 4) F_plan hb (j := 4) (by decide) (C_look_at_lists.mono (by decide)) (C_followers.mono (by decide)) (C_paired.mono (by decide)) (C_row_from.mono (by decide)) (C_standing_apart.mono (by decide))).imp (fun vs H Q E h => plan_frz h)) (PySem.W.mg_of X G axplan) b_plan
  have C__law_whole := cal_mk (P := l.prog) (w := w) (base := base) F__law_whole (ok__law_whole (k := 0) F__law_whole hb) (PySem.W.mg_of X G ax_law_whole) b__law_whole
  have C_is_number := cal_mk (P := l.prog) (w := w) (base := base) F_is_number (ok_is_number (k := 1) F_is_number hb (j := 1) (by decide) (C_is_whole.mono (by decide))) (PySem.W.mg_of X G axis_number) b_is_number
  have C_look_at_number := cal_mk (P := l.prog) (w := w) (base := base) F_look_at_number (ok_look_at_number (k := 2) F_look_at_number hb (j := 2) (by decide) (C_is_number.mono (by decide))) (PySem.W.mg_of X G axlook_at_number) b_look_at_number
  have C_traced := cal_mk (P := l.prog) (w := w) (base := base) F_traced (ok_traced (k := 0) F_traced hb) (PySem.W.mg_of X G axtraced) b_traced
  have C_between := calx_mk (P := l.prog) (w := w) (base := base) F_between (ok_between (k := 2) F_between hb gNotInTime.ok (j := 2) (by decide) (C_explored.mono (by decide)) (C_in_time.mono (by decide)) (C_traced.mono (by decide))) (PySem.W.mg_of X G axbetween) b_between
  have C_day := calx_mk (P := l.prog) (w := w) (base := base) F_day (ok_day (k := 3) F_day hb (j := 3) (by decide) (C_look_at_lists.mono (by decide)) (C_look_at_number.mono (by decide)) (C_laid_roads.mono (by decide)) (C_between.mono (by decide))) (PySem.W.mg_of X G axday) b_day
  have C__law_stops := cal_mk (P := l.prog) (w := w) (base := base) F__law_stops (ok__law_stops (k := 1) F__law_stops hb (j := 1) (by decide) (C__law_whole.mono (by decide))) (PySem.W.mg_of X G ax_law_stops) b__law_stops
  have C__law_walked := cal_mk (P := l.prog) (w := w) (base := base) F__law_walked (ok__law_walked (k := 0) F__law_walked hb) (PySem.W.mg_of X G ax_law_walked) b__law_walked
  have C__law_done := cal_mk (P := l.prog) (w := w) (base := base) F__law_done (ok__law_done (k := 4) F__law_done hb (j := 4) (by decide) (C_day.mono (by decide)) (C__law_stops.mono (by decide)) (C__law_walked.mono (by decide))) (PySem.W.mg_of X G ax_law_done) b__law_done
  have C_look_at_place := cal_mk (P := l.prog) (w := w) (base := base) F_look_at_place (ok_look_at_place (k := 1) F_look_at_place hb (j := 1) (by decide) (C_is_place.mono (by decide))) (PySem.W.mg_of X G axlook_at_place) b_look_at_place
  have C_spread := cal_mk (P := l.prog) (w := w) (base := base) F_spread (ok_spread (k := 3) F_spread hb (j := 3) (by decide) (C_look_at_lists.mono (by decide)) (C_look_at_place.mono (by decide)) (C_laid_roads.mono (by decide)) (C_explored.mono (by decide))) (PySem.W.mg_of X G axspread) b_spread
  have C__law_far := cal_mk (P := l.prog) (w := w) (base := base) F__law_far (ok__law_far (k := 0) F__law_far hb) (PySem.W.mg_of X G ax_law_far) b__law_far
  have C__law_apart := cal_mk (P := l.prog) (w := w) (base := base) F__law_apart (ok__law_apart (k := 4) F__law_apart hb (j := 4) (by decide) (C_spread.mono (by decide)) (C__law_far.mono (by decide))) (PySem.W.mg_of X G ax_law_apart) b__law_apart
  exact (ok_law (k := 5) F_law hb (j := 5) (by decide) (C__law_built.mono (by decide)) (C__law_cell_at.mono (by decide)) (C__law_trips.mono (by decide)) (C__law_roads.mono (by decide)) (C_plan.mono (by decide)) (C__law_whole.mono (by decide)) (C__law_done.mono (by decide)) (C__law_apart.mono (by decide))).imp (fun vs H Q E h => law_imp h)
end K8

open PySem PySem.W PyProof.Rows
set_option maxHeartbeats 0 in
theorem PySem.Challenge.cw_fewbuses_k08_whole_fewest_holds : PySem.Challenge.rw_fewbuses_k08_whole_fewest.Holds := by
  w_on; o_law; k_head; (case hw => w_witness2)
  k_fill
  refine L2.walk_of (l := PySem.Challenge.rw_fewbuses_k08_whole_fewest) (n := 63) (k := 6) (x := "_law_script") (CX := fun _ => L2.CX0) (sp := fun w => K8.spLaw _) rfl (by decide) rfl ⟨rfl, by decide, by decide⟩ (fun w h Y => PySem.W.kIn_of Y) ?F (fun _ _ a ns hl _ hS => ⟨a, ns, rfl, hS, hl, fun _ => rfl⟩) (fun _ _ _ _ _ h => h)
  case F =>
    intro w mg fa h KX G hmg
    refine' K8.all_mk KX G hmg ?ax_law_cell_at ?lx_law_cell_at ?cx_law_cell_at ?kx_law_cell_at ?ax_law_names ?lx_law_names ?cx_law_names ?kx_law_names ?ax_law_rides ?lx_law_rides ?cx_law_rides ?kx_law_rides ?ax_law_trips ?lx_law_trips ?cx_law_trips ?kx_law_trips ?ax_law_built ?lx_law_built ?cx_law_built ?kx_law_built ?ax_law_roads ?lx_law_roads ?cx_law_roads ?kx_law_roads ?axis_place ?lxis_place ?cxis_place ?kxis_place ?axis_whole ?lxis_whole ?cxis_whole ?kxis_whole ?axis_ride ?lxis_ride ?cxis_ride ?kxis_ride ?axis_trip ?lxis_trip ?cxis_trip ?kxis_trip ?axlook_at_lists ?lxlook_at_lists ?cxlook_at_lists ?kxlook_at_lists ?axlaid_roads ?lxlaid_roads ?cxlaid_roads ?kxlaid_roads ?axleaving ?lxleaving ?cxleaving ?kxleaving ?axexplored ?lxexplored ?cxexplored ?kxexplored ?axin_time ?lxin_time ?cxin_time ?kxin_time ?axfollowing ?lxfollowing ?cxfollowing ?kxfollowing ?axfollowers ?lxfollowers ?cxfollowers ?kxfollowers ?axmeant_for ?lxmeant_for ?cxmeant_for ?kxmeant_for ?axpair_anew ?lxpair_anew ?cxpair_anew ?kxpair_anew ?axpaired ?lxpaired ?cxpaired ?kxpaired ?axrow_from ?lxrow_from ?cxrow_from ?kxrow_from ?axstanding_apart ?lxstanding_apart ?cxstanding_apart ?kxstanding_apart ?axplan ?lxplan ?cxplan ?kxplan ?ax_law_whole ?lx_law_whole ?cx_law_whole ?kx_law_whole ?axis_number ?lxis_number ?cxis_number ?kxis_number ?axlook_at_number ?lxlook_at_number ?cxlook_at_number ?kxlook_at_number ?axtraced ?lxtraced ?cxtraced ?kxtraced ?axbetween ?lxbetween ?cxbetween ?kxbetween ?axday ?lxday ?cxday ?kxday ?ax_law_stops ?lx_law_stops ?cx_law_stops ?kx_law_stops ?ax_law_walked ?lx_law_walked ?cx_law_walked ?kx_law_walked ?ax_law_done ?lx_law_done ?cx_law_done ?kx_law_done ?axlook_at_place ?lxlook_at_place ?cxlook_at_place ?kxlook_at_place ?axspread ?lxspread ?cxspread ?kxspread ?ax_law_far ?lx_law_far ?cx_law_far ?kx_law_far ?ax_law_apart ?lx_law_apart ?cx_law_apart ?kx_law_apart ?axlaw ?lxlaw ?cxlaw ?kxlaw ?mLETTERS ?mLONGEST_NAME ?mLAST_MINUTE ?mLONGEST_RIDE ?mheappop ?mheappush ?aXNotInTime ?qXNotInTime ?kXNotInTime ?bXNotInTime ?tXNotInTime ?uXNotInTime ?wXNotInTime ?dXNotInTime ?eXNotInTime ?oXNotInTime ?iXNotInTime ?hnX ?htX ?zall ?zisinstance ?zstr ?zlen ?zbool ?zint ?ztuple ?zenumerate ?zlist ?zrange ?zmax ?zmin ?zdict ?zsorted
    (case ax_law_cell_at => k_is); (case lx_law_cell_at => k_is); (case cx_law_cell_at => k_is); (case kx_law_cell_at => k_is); (case ax_law_names => k_is); (case lx_law_names => k_is); (case cx_law_names => k_is); (case kx_law_names => k_is); (case ax_law_rides => k_is); (case lx_law_rides => k_is); (case cx_law_rides => k_is); (case kx_law_rides => k_is); (case ax_law_trips => k_is); (case lx_law_trips => k_is); (case cx_law_trips => k_is); (case kx_law_trips => k_is); (case ax_law_built => k_is); (case lx_law_built => k_is); (case cx_law_built => k_is); (case kx_law_built => k_is); (case ax_law_roads => k_is); (case lx_law_roads => k_is); (case cx_law_roads => k_is); (case kx_law_roads => k_is); (case axis_place => k_is); (case lxis_place => k_is); (case cxis_place => k_is); (case kxis_place => k_is); (case axis_whole => k_is); (case lxis_whole => k_is); (case cxis_whole => k_is); (case kxis_whole => k_is); (case axis_ride => k_is); (case lxis_ride => k_is); (case cxis_ride => k_is); (case kxis_ride => k_is); (case axis_trip => k_is); (case lxis_trip => k_is); (case cxis_trip => k_is); (case kxis_trip => k_is); (case axlook_at_lists => k_is); (case lxlook_at_lists => k_is); (case cxlook_at_lists => k_is); (case kxlook_at_lists => k_is); (case axlaid_roads => k_is); (case lxlaid_roads => k_is); (case cxlaid_roads => k_is); (case kxlaid_roads => k_is); (case axleaving => k_is); (case lxleaving => k_is); (case cxleaving => k_is); (case kxleaving => k_is); (case axexplored => k_is); (case lxexplored => k_is); (case cxexplored => k_is); (case kxexplored => k_is); (case axin_time => k_is); (case lxin_time => k_is); (case cxin_time => k_is); (case kxin_time => k_is); (case axfollowing => k_is); (case lxfollowing => k_is); (case cxfollowing => k_is); (case kxfollowing => k_is); (case axfollowers => k_is); (case lxfollowers => k_is); (case cxfollowers => k_is); (case kxfollowers => k_is); (case axmeant_for => k_is); (case lxmeant_for => k_is); (case cxmeant_for => k_is); (case kxmeant_for => k_is); (case axpair_anew => k_is); (case lxpair_anew => k_is); (case cxpair_anew => k_is); (case kxpair_anew => k_is); (case axpaired => k_is); (case lxpaired => k_is); (case cxpaired => k_is); (case kxpaired => k_is); (case axrow_from => k_is); (case lxrow_from => k_is); (case cxrow_from => k_is); (case kxrow_from => k_is); (case axstanding_apart => k_is); (case lxstanding_apart => k_is); (case cxstanding_apart => k_is); (case kxstanding_apart => k_is); (case axplan => k_is); (case lxplan => k_is); (case cxplan => k_is); (case kxplan => k_is); (case ax_law_whole => k_is); (case lx_law_whole => k_is); (case cx_law_whole => k_is); (case kx_law_whole => k_is); (case axis_number => k_is); (case lxis_number => k_is); (case cxis_number => k_is); (case kxis_number => k_is); (case axlook_at_number => k_is); (case lxlook_at_number => k_is); (case cxlook_at_number => k_is); (case kxlook_at_number => k_is); (case axtraced => k_is); (case lxtraced => k_is); (case cxtraced => k_is); (case kxtraced => k_is); (case axbetween => k_is); (case lxbetween => k_is); (case cxbetween => k_is); (case kxbetween => k_is); (case axday => k_is); (case lxday => k_is); (case cxday => k_is); (case kxday => k_is); (case ax_law_stops => k_is); (case lx_law_stops => k_is); (case cx_law_stops => k_is); (case kx_law_stops => k_is); (case ax_law_walked => k_is); (case lx_law_walked => k_is); (case cx_law_walked => k_is); (case kx_law_walked => k_is); (case ax_law_done => k_is); (case lx_law_done => k_is); (case cx_law_done => k_is); (case kx_law_done => k_is); (case axlook_at_place => k_is); (case lxlook_at_place => k_is); (case cxlook_at_place => k_is); (case kxlook_at_place => k_is); (case axspread => k_is); (case lxspread => k_is); (case cxspread => k_is); (case kxspread => k_is); (case ax_law_far => k_is); (case lx_law_far => k_is); (case cx_law_far => k_is); (case kx_law_far => k_is); (case ax_law_apart => k_is); (case lx_law_apart => k_is); (case cx_law_apart => k_is); (case kx_law_apart => k_is); (case axlaw => k_is); (case lxlaw => k_is); (case cxlaw => k_is); (case kxlaw => k_is); (case mLETTERS => k_is); (case mLONGEST_NAME => k_is); (case mLAST_MINUTE => k_is); (case mLONGEST_RIDE => k_is); (case mheappop => k_is); (case mheappush => k_is); (case aXNotInTime => k_is); (case qXNotInTime => k_exc); (case kXNotInTime => k_is); (case bXNotInTime => k_is); (case tXNotInTime => k_is); (case uXNotInTime => k_is); (case wXNotInTime => k_is); (case dXNotInTime => k_is); (case eXNotInTime => k_is); (case oXNotInTime => k_is); (case iXNotInTime => k_is); (case hnX => k_is); (case htX => k_is); (case zall => k_is); (case zisinstance => k_is); (case zstr => k_is); (case zlen => k_is); (case zbool => k_is); (case zint => k_is); (case ztuple => k_is); (case zenumerate => k_is); (case zlist => k_is); (case zrange => k_is); (case zmax => k_is); (case zmin => k_is); (case zdict => k_is); (case zsorted => k_is)
