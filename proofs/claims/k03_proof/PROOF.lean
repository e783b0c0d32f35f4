import PyProof.Rows.All
import Wide.All
import OpenK.AllK
import Wide.FinOn
import HandS.ForMost
import HandS.Deep
import HandS.NoneIn
import HandS.Zip
import HandS.Defaults
import HandS.Flow
import HandS.TupAny
import HandS.IsInst
import HandS.Wide
import HandS.Style
import KE.SortData
import HandS.TupSets
import KE.KDictKeyed
import KE.DataCmp
import HandS.DictComp
import HandS.Small
import PyProof.Rows.SeqMore
import KE.LtData
import PyProof.EqLayable
import HandS.Head0
import HandS.Head1
import HandS.Head2
import HandS.HeadEnd
import HandS.HeadHook1
import HandS.HeadHook2
import KE.KStateDown
import PySem.Challenge.RW_landpoints_k03_plain_cuts
set_option Elab.async false
set_option linter.all false
set_option maxRecDepth 100000
set_option maxHeartbeats 4000000
/-! Lp0: data of a program told without the heap; slots that own what they hold; the relation to the layer's slots and heap. -/
namespace L2.Lp
open PySem PySem.Spec PyProof.Rows L2
open Classical in
/-- the heap without the objects at P -/
noncomputable def hid (P : Addr → Prop) (H : Hp) : Hp := fun a => if P a then none else H a
theorem hid_some {P : Addr → Prop} {H : Hp} {a : Addr} {o : HO} : hid P H a = some o ↔ ¬ P a ∧ H a = some o := by
  unfold hid
  by_cases h : P a
  · simp [h]
  · simp [h]
theorem hid_sub (P : Addr → Prop) (H : Hp) : Same (hid P H) H := fun b o h => (hid_some.mp h).2
theorem hid_mono {P P' : Addr → Prop} {H : Hp} (h : ∀ a, P' a → P a) : Same (hid P H) (hid P' H) := fun b o e =>
  let ⟨a, c⟩ := hid_some.mp e
  hid_some.mpr ⟨fun q => a (h _ q), c⟩
theorem hid_same {P : Addr → Prop} {H H' : Hp} (h : Same H H') : Same (hid P H) (hid P H') := fun b o e =>
  let ⟨a, c⟩ := hid_some.mp e
  hid_some.mpr ⟨a, h _ _ c⟩

def keyD : Key → PyData
  | .inl i => .int i
  | .inr x => .str x

mutual
/-- a value of the heap is this datum -/
inductive Dq (K : PySem.W.Frag) (H : Hp) : V → PyData → Prop
  | non : Dq K H .non .none
  | bl (b : Bool) : Dq K H (.bl b) (.bool b)
  | int (i : Int) : Dq K H (.int i) (.int i)
  | str (x : Str) : Dq K H (.str x) (.str x)
  | lst {a : Addr} {xs : List V} {ds : List PyData} : SqL K H a xs → ds.length ≤ sizeLine → DqAll K H xs ds → Dq K H (.ref a) (.list ds)
  | tup {a : Addr} {xs : List V} {ds : List PyData} : SqT K H a xs → ds.length ≤ sizeLine → DqAll K H xs ds → Dq K H (.ref a) (.tuple ds)
  | dic {a : Addr} {kvs : List (Key × V)} {ps : List (PyData × PyData)} : H a = some (.dK kvs) → DqKV K H kvs ps → Dq K H (.ref a) (.dict ps)
inductive DqAll (K : PySem.W.Frag) (H : Hp) : List V → List PyData → Prop
  | nil : DqAll K H [] []
  | cons {v : V} {vs : List V} {d : PyData} {ds : List PyData} : Dq K H v d → DqAll K H vs ds → DqAll K H (v :: vs) (d :: ds)
inductive DqKV (K : PySem.W.Frag) (H : Hp) : List (Key × V) → List (PyData × PyData) → Prop
  | nil : DqKV K H [] []
  | cons {k : Key} {v : V} {kvs : List (Key × V)} {d : PyData} {ps : List (PyData × PyData)} : Dq K H v d → DqKV K H kvs ps → DqKV K H ((k, v) :: kvs) ((keyD k, d) :: ps)
end
section
variable {K : PySem.W.Frag} {H H' : Hp}
theorem same_rd {a : Addr} {o : HO} (e : Same H H') (h : Rd H a o) : Rd H' a o := by
  rcases h with h | ⟨u, h⟩
  · exact .inl (e _ _ h)
  · exact .inr ⟨u, e _ _ h⟩
theorem same_sqL {a : Addr} {xs : List V} (e : Same H H') (h : SqL K H a xs) : SqL K H' a xs := by
  rcases h with h | h
  · exact .inl (same_rd e h)
  · exact .inr h
theorem same_sqT {a : Addr} {xs : List V} (e : Same H H') (h : SqT K H a xs) : SqT K H' a xs := by
  rcases h with h | h
  · exact .inl (same_rd e h)
  · exact .inr h
mutual
theorem Dq.mono (e : Same H H') : ∀ {v : V} {d : PyData}, Dq K H v d → Dq K H' v d
  | _, _, .non => .non
  | _, _, .bl b => .bl b
  | _, _, .int i => .int i
  | _, _, .str x => .str x
  | _, _, .lst h l a => .lst (same_sqL e h) l (DqAll.mono e a)
  | _, _, .tup h l a => .tup (same_sqT e h) l (DqAll.mono e a)
  | _, _, .dic h a => .dic (e _ _ h) (DqKV.mono e a)
theorem DqAll.mono (e : Same H H') : ∀ {vs : List V} {ds : List PyData}, DqAll K H vs ds → DqAll K H' vs ds
  | _, _, .nil => .nil
  | _, _, .cons a b => .cons (Dq.mono e a) (DqAll.mono e b)
theorem DqKV.mono (e : Same H H') : ∀ {vs : List (Key × V)} {ds : List (PyData × PyData)}, DqKV K H vs ds → DqKV K H' vs ds
  | _, _, .nil => .nil
  | _, _, .cons a b => .cons (Dq.mono e a) (DqKV.mono e b)
end
theorem DqAll.len : ∀ {vs : List V} {ds : List PyData}, DqAll K H vs ds → vs.length = ds.length
  | _, _, .nil => rfl
  | _, _, .cons _ b => by simp [DqAll.len b]
theorem DqAll.get : ∀ {vs : List V} {ds : List PyData} {i : Nat} {v : V}, DqAll K H vs ds → vs[i]? = some v → ∃ d, ds[i]? = some d ∧ Dq K H v d
  | _, _, 0, _, .cons a _, h => by
    simp at h
    subst h
    exact ⟨_, rfl, a⟩
  | _, _, i + 1, _, .cons _ b, h => by
    obtain ⟨d, h1, h2⟩ := DqAll.get (i := i) b (by simpa using h)
    exact ⟨d, by simpa using h1, h2⟩
theorem DqAll.got : ∀ {vs : List V} {ds : List PyData} {i : Nat} {d : PyData}, DqAll K H vs ds → ds[i]? = some d → ∃ v, vs[i]? = some v ∧ Dq K H v d
  | _, _, 0, _, .cons a _, h => by
    simp at h
    subst h
    exact ⟨_, rfl, a⟩
  | _, _, i + 1, _, .cons _ b, h => by
    obtain ⟨d, h1, h2⟩ := DqAll.got (i := i) b (by simpa using h)
    exact ⟨d, by simpa using h1, h2⟩
theorem DqAll.app : ∀ {vs ws : List V} {ds es : List PyData}, DqAll K H vs ds → DqAll K H ws es → DqAll K H (vs ++ ws) (ds ++ es)
  | _, _, _, _, .nil, h => h
  | _, _, _, _, .cons a b, h => .cons a (DqAll.app b h)
theorem DqAll.take : ∀ {vs : List V} {ds : List PyData} (n : Nat), DqAll K H vs ds → DqAll K H (vs.take n) (ds.take n)
  | _, _, 0, _ => .nil
  | _, _, _ + 1, .nil => .nil
  | _, _, n + 1, .cons a b => .cons a (DqAll.take n b)
theorem DqAll.drop : ∀ {vs : List V} {ds : List PyData} (n : Nat), DqAll K H vs ds → DqAll K H (vs.drop n) (ds.drop n)
  | _, _, 0, r => r
  | _, _, _ + 1, .nil => .nil
  | _, _, n + 1, .cons _ b => DqAll.drop n b
theorem DqAll.set {v : V} {d : PyData} (h : Dq K H v d) : ∀ {vs : List V} {ds : List PyData} (n : Nat), DqAll K H vs ds → DqAll K H (vs.set n v) (ds.set n d)
  | _, _, _, .nil => .nil
  | _, _, 0, .cons _ b => .cons h b
  | _, _, n + 1, .cons a b => .cons a (DqAll.set h n b)
theorem DqAll.one {v : V} {d : PyData} (h : Dq K H v d) : DqAll K H [v] [d] := .cons h .nil

mutual
/-- no dict within -/
def noD : PyData → Bool
  | .dict _ => false
  | .list xs => noDs xs
  | .tuple xs => noDs xs
  | _ => true
def noDs : List PyData → Bool
  | [] => true
  | x :: xs => noD x && noDs xs
end
mutual
theorem Dq.dp : ∀ {v : V} {d : PyData}, Dq K H v d → noD d = true → Dp K H v d
  | _, _, .non, _ => .non
  | _, _, .bl b, _ => .bl b
  | _, _, .int i, _ => .int i
  | _, _, .str x, _ => .str x
  | _, _, .lst h _ a, n => .lst h (DqAll.dp a n)
  | _, _, .tup h _ a, n => .tup h (DqAll.dp a n)
  | _, _, .dic _ _, n => by simp [noD] at n
theorem DqAll.dp : ∀ {vs : List V} {ds : List PyData}, DqAll K H vs ds → noDs ds = true → DpAll K H vs ds
  | _, _, .nil, _ => .nil
  | _, _, .cons a b, n => by
    simp [noDs] at n
    exact .cons (Dq.dp a n.1) (DqAll.dp b n.2)
end
theorem DqAll.ints : ∀ {vs : List V} {ns : List Int}, DqAll K H vs (ns.map .int) → vs = ns.map V.int
  | _, [], .nil => rfl
  | _, _ :: _, .cons a b => by
    cases a
    rw [List.map_cons, ← DqAll.ints b]
theorem DqAll.bls : ∀ {vs : List V} {ns : List Bool}, DqAll K H vs (ns.map .bool) → vs = ns.map V.bl
  | _, [], .nil => rfl
  | _, _ :: _, .cons a b => by
    cases a
    rw [List.map_cons, ← DqAll.bls b]
theorem DqAll.strs : ∀ {vs : List V} {ns : List Str}, DqAll K H vs (ns.map .str) → vs = ns.map V.str
  | _, [], .nil => rfl
  | _, _ :: _, .cons a b => by
    cases a
    rw [List.map_cons, ← DqAll.strs b]
end

/-! ### slots -/
/-- what a slot holds: nothing that is known; a datum that nobody changes; an object of its own (b: the caller's) -/
inductive Sl where
  | no
  | sh (d : PyData)
  | mu (b : Bool) (d : PyData)
abbrev Ev := List Sl
/-- the object at a is the owned datum -/
def OwnAt (K : PySem.W.Frag) (P : Addr → Prop) (H : Hp) (a : Addr) : PyData → Prop
  | .list ds => ds.length ≤ sizeLine ∧ ∃ xs, H a = some (.lst xs) ∧ DqAll K (hid P H) xs ds
  | .dict ps => ∃ kvs, H a = some (.dK kvs) ∧ DqKV K (hid P H) kvs ps
  | _ => False
/-- the frame of a def: the heap at its entry, what others own, what it may change for its caller -/
structure Cn where
  H0 : Hp
  B : Addr → Prop
  I : Addr → Prop
structure Rel (K : PySem.W.Frag) (c : Cn) (P : Addr → Prop) (σ : St) (H : Hp) (env : Ev) : Prop where
  len : env.length = σ.length
  sh : ∀ (i : Nat) (d : PyData), env[i]? = some (Sl.sh d) → ∃ v, σ[i]? = some (some v) ∧ Dq K (hid P H) v d
  mu : ∀ (i : Nat) (b : Bool) (d : PyData), env[i]? = some (Sl.mu b d) → ∃ a, σ[i]? = some (some (V.ref a)) ∧ P a ∧ OwnAt K P H a d ∧ ¬ c.B a ∧ (b = true → c.I a) ∧ (b = false → c.H0 a = none)
  dis : ∀ (i j : Nat) (b : Bool) (d : PyData) (e : Bool) (f : PyData), env[i]? = some (Sl.mu b d) → env[j]? = some (Sl.mu e f) → σ[i]? = σ[j]? → i = j
  bp : ∀ a, c.B a → P a
  pt : ∀ a, P a → H a ≠ none
  fr : ∀ a o, c.H0 a = some o → ¬ c.I a → H a = some o
  ip : ∀ a, c.I a → P a
  it : ∀ a, c.I a → c.H0 a ≠ none
  bi : ∀ a, c.B a → ¬ c.I a
/-- temporary values stay what they are -/
def Stp (P : Addr → Prop) (H : Hp) (P' : Addr → Prop) (H' : Hp) : Prop := Same (hid P H) (hid P' H')
theorem Stp.refl (P : Addr → Prop) (H : Hp) : Stp P H P H := Same.refl _
theorem Stp.trans {P P1 P2 : Addr → Prop} {H H1 H2 : Hp} (a : Stp P H P1 H1) (b : Stp P1 H1 P2 H2) : Stp P H P2 H2 := Same.trans a b
/-- a result: a datum, or what the i-th slot holds by then -/
inductive R where
  | d (x : PyData)
  | bor (i : Nat)
def res (env : Ev) : R → Option PyData
  | .d x => some x
  | .bor i => match env[i]? with
    | some (Sl.sh d) => some d
    | some (Sl.mu _ d) => some d
    | _ => none
def RelT (K : PySem.W.Frag) (P : Addr → Prop) (σ : St) (H : Hp) (v : V) : R → Prop
  | .d x => Dq K (hid P H) v x
  | .bor i => σ[i]? = some (some v)
inductive RelTs (K : PySem.W.Frag) (P : Addr → Prop) (σ : St) (H : Hp) : List V → List R → Prop
  | nil : RelTs K P σ H [] []
  | cons {v : V} {r : R} {vs : List V} {rs : List R} : RelT K P σ H v r → RelTs K P σ H vs rs → RelTs K P σ H (v :: vs) (r :: rs)
/-- an operand: a datum that nobody changes, or an owned object as it is now -/
def Da (K : PySem.W.Frag) (P : Addr → Prop) (H : Hp) (v : V) (d : PyData) : Prop :=
  Dq K (hid P H) v d ∨ ∃ a, v = .ref a ∧ P a ∧ OwnAt K P H a d
inductive DaAll (K : PySem.W.Frag) (P : Addr → Prop) (H : Hp) : List V → List PyData → Prop
  | nil : DaAll K P H [] []
  | cons {v : V} {d : PyData} {vs : List V} {ds : List PyData} : Da K P H v d → DaAll K P H vs ds → DaAll K P H (v :: vs) (d :: ds)
section
variable {K : PySem.W.Frag} {c : Cn} {P P' : Addr → Prop} {σ : St} {H H' : Hp} {env : Ev} {v : V} {r : R} {d : PyData}
theorem OwnAt.dq {a : Addr} (h : OwnAt K P H a d) : Dq K H (.ref a) d := by
  cases d with
  | list ds =>
    obtain ⟨l, xs, e, q⟩ := h
    exact .lst (SqL.of e) l (q.mono (hid_sub P H))
  | dict ps =>
    obtain ⟨kvs, e, q⟩ := h
    exact .dic e (q.mono (hid_sub P H))
  | _ => exact False.elim h
theorem Da.dq (h : Da K P H v d) : Dq K H v d := by
  rcases h with h | ⟨a, rfl, _, h⟩
  · exact h.mono (hid_sub P H)
  · exact h.dq
theorem DaAll.dq : ∀ {vs : List V} {ds : List PyData}, DaAll K P H vs ds → DqAll K H vs ds
  | _, _, .nil => .nil
  | _, _, .cons a b => .cons a.dq (DaAll.dq b)
theorem RelT.step (s : Stp P H P' H') (h : RelT K P σ H v r) : RelT K P' σ H' v r := by
  cases r with
  | d x => exact Dq.mono s h
  | bor i => exact h
theorem RelTs.step (s : Stp P H P' H') : ∀ {vs : List V} {rs : List R}, RelTs K P σ H vs rs → RelTs K P' σ H' vs rs
  | _, _, .nil => .nil
  | _, _, .cons a b => .cons (RelT.step s a) (RelTs.step s b)
theorem OwnAt.move {a : Addr} (h : OwnAt K P H a d) (s : Same (hid P H) (hid P' H')) (k : ∀ o, H a = some o → H' a = some o) : OwnAt K P' H' a d := by
  cases d with
  | list ds =>
    obtain ⟨l, xs, e, q⟩ := h
    exact ⟨l, xs, k _ e, q.mono s⟩
  | dict ps =>
    obtain ⟨kvs, e, q⟩ := h
    exact ⟨kvs, k _ e, q.mono s⟩
  | _ => exact False.elim h
theorem Rel.res (R0 : Rel K c P σ H env) (h : RelT K P σ H v r) (e : res env r = some d) : Da K P H v d := by
  cases r with
  | d x =>
    cases e
    exact .inl h
  | bor i =>
    have h : σ[i]? = some (some v) := h
    cases he : env[i]? with
    | none => simp [Lp.res, he] at e
    | some s =>
      cases s with
      | no => simp [Lp.res, he] at e
      | sh d' =>
        simp [Lp.res, he] at e
        subst e
        obtain ⟨w, h1, h2⟩ := R0.sh i _ he
        rw [h] at h1
        cases h1
        exact .inl h2
      | mu b d' =>
        simp [Lp.res, he] at e
        subst e
        obtain ⟨a, h1, h2, h3, _⟩ := R0.mu i _ _ he
        rw [h] at h1
        cases h1
        exact .inr ⟨a, rfl, h2, h3⟩
/-- the heap has grown -/
theorem Rel.same (R0 : Rel K c P σ H env) (s : Same H H') : Rel K c P σ H' env where
  len := R0.len
  sh i d e := let ⟨v, h1, h2⟩ := R0.sh i d e; ⟨v, h1, h2.mono (hid_same s)⟩
  mu i b d e := let ⟨a, h1, h2, h3, h4⟩ := R0.mu i b d e; ⟨a, h1, h2, h3.move (hid_same s) (fun o => s _ _), h4⟩
  dis := R0.dis
  bp := R0.bp
  pt a h e := R0.pt a h (s.free e)
  fr a o h i := s _ _ (R0.fr a o h i)
  ip := R0.ip
  it := R0.it
  bi := R0.bi
/-- a slot gets a datum -/
theorem Rel.setSh (R0 : Rel K c P σ H env) {i : Nat} (h : Dq K (hid P H) v d) : Rel K c P (σ.set i (some v)) H (env.set i (Sl.sh d)) where
  len := by simp [R0.len]
  sh j e q := by
    by_cases hij : i = j
    · subst hij
      rw [List.getElem?_set] at q
      split at q
      · split at q
        · cases q
          rename_i hl
          exact ⟨v, by rw [List.getElem?_set_self (by rw [← R0.len]; exact hl)], h⟩
        · cases q
      · rename_i n
        exact absurd rfl n
    · rw [List.getElem?_set_ne hij] at q ⊢
      exact R0.sh j e q
  mu j b e q := by
    by_cases hij : i = j
    · subst hij
      rw [List.getElem?_set] at q
      split at q
      · split at q <;> cases q
      · rename_i n
        exact absurd rfl n
    · rw [List.getElem?_set_ne hij] at q ⊢
      exact R0.mu j b e q
  dis j k b e f g q1 q2 q3 := by
    have n1 : i ≠ j := by
      intro z
      subst z
      rw [List.getElem?_set] at q1
      split at q1
      · split at q1 <;> cases q1
      · rename_i n
        exact absurd rfl n
    have n2 : i ≠ k := by
      intro z
      subst z
      rw [List.getElem?_set] at q2
      split at q2
      · split at q2 <;> cases q2
      · rename_i n
        exact absurd rfl n
    rw [List.getElem?_set_ne n1] at q1 q3
    rw [List.getElem?_set_ne n2] at q2 q3
    exact R0.dis j k _ _ _ _ q1 q2 q3
  bp := R0.bp
  pt := R0.pt
  fr := R0.fr
  ip := R0.ip
  it := R0.it
  bi := R0.bi
/-- slots that are not asked of any more -/
theorem Rel.weak {σ' : St} {env' : Ev} (R0 : Rel K c P σ H env) (l : env'.length = σ'.length) (h : ∀ (i : Nat) (x : Sl), env'[i]? = some x → x = Sl.no ∨ (env[i]? = some x ∧ σ'[i]? = σ[i]?)) : Rel K c P σ' H env' where
  len := l
  sh i d e := by
    rcases h i _ e with q | ⟨q1, q2⟩
    · cases q
    · rw [q2]
      exact R0.sh i d q1
  mu i b d e := by
    rcases h i _ e with q | ⟨q1, q2⟩
    · cases q
    · rw [q2]
      exact R0.mu i b d q1
  dis i j b d e f q1 q2 q3 := by
    rcases h i _ q1 with q | ⟨a1, a2⟩
    · cases q
    · rcases h j _ q2 with q | ⟨b1, b2⟩
      · cases q
      · rw [a2, b2] at q3
        exact R0.dis i j _ _ _ _ a1 b1 q3
  bp := R0.bp
  pt := R0.pt
  fr := R0.fr
  ip := R0.ip
  it := R0.it
  bi := R0.bi
/-- a slot's own object is one that nobody changes from here on -/
theorem Rel.freeze (R0 : Rel K c P σ H env) {i : Nat} (e : env[i]? = some (Sl.mu false d)) (hv : σ[i]? = some (some v)) :
    ∃ P', Rel K c P' σ H (env.set i (Sl.sh d)) ∧ Stp P H P' H ∧ Dq K (hid P' H) v d := by
  obtain ⟨a, h1, h2, h3, h4, h5, h6⟩ := R0.mu i _ _ e
  rw [hv] at h1
  cases h1
  have sp : Same (hid P H) (hid (fun x => P x ∧ x ≠ a) H) := hid_mono fun x h => h.1
  have hq : Dq K (hid (fun x => P x ∧ x ≠ a) H) (.ref a) d := by
    have g : ∀ o, H a = some o → hid (fun x => P x ∧ x ≠ a) H a = some o := fun o q => hid_some.mpr ⟨fun z => z.2 rfl, q⟩
    cases d with
    | list ds =>
      obtain ⟨l, xs, e, q⟩ := h3
      exact .lst (SqL.of (g _ e)) l (q.mono sp)
    | dict ps =>
      obtain ⟨kvs, e, q⟩ := h3
      exact .dic (g _ e) (q.mono sp)
    | _ => exact False.elim h3
  have ne : ∀ j, i ≠ j → (env.set i (Sl.sh d))[j]? = env[j]? := fun j n => List.getElem?_set_ne n
  have at_ : ∀ x, (env.set i (Sl.sh d))[i]? = some x → x = Sl.sh d := fun x q => by
    rw [List.getElem?_set] at q
    split at q
    · split at q
      · cases q
        rfl
      · cases q
    · rename_i n
      exact absurd rfl n
  refine ⟨fun x => P x ∧ x ≠ a, ?_, sp, hq⟩
  refine { len := by simp [R0.len], sh := fun j f q => ?_, mu := fun j b f q => ?_, dis := fun j k b f g' h q1 q2 q3 => ?_, bp := fun x hx => ⟨R0.bp x hx, fun z => h4 (z ▸ hx)⟩, pt := fun x hx => R0.pt x hx.1, fr := R0.fr,
           ip := fun x hx => ⟨R0.ip x hx, fun z => R0.it x hx (z ▸ h6 rfl)⟩, it := R0.it, bi := R0.bi }
  · by_cases hij : i = j
    · subst hij
      cases at_ _ q
      exact ⟨_, hv, hq⟩
    · rw [ne j hij] at q
      obtain ⟨w, k1, k2⟩ := R0.sh j f q
      exact ⟨w, k1, k2.mono sp⟩
  · by_cases hij : i = j
    · subst hij
      cases at_ _ q
    · rw [ne j hij] at q
      obtain ⟨b', k1, k2, k3, k4⟩ := R0.mu j b f q
      refine ⟨b', k1, ⟨k2, fun z => hij ?_⟩, k3.move sp (fun _ x => x), k4⟩
      subst z
      exact R0.dis i j _ _ _ _ e q (by rw [hv, k1])
  · have n1 : i ≠ j := fun z => by
      subst z
      cases at_ _ q1
    have n2 : i ≠ k := fun z => by
      subst z
      cases at_ _ q2
    rw [ne _ n1] at q1
    rw [ne _ n2] at q2
    exact R0.dis j k _ _ _ _ q1 q2 q3
/-- the result as a datum that nobody changes -/
def fz (env : Ev) : R → Option (PyData × Ev)
  | .d x => some (x, env)
  | .bor i => match env[i]? with
    | some (Sl.sh d) => some (d, env)
    | some (Sl.mu false d) => some (d, env.set i (Sl.sh d))
    | _ => none
theorem Rel.fz {env' : Ev} (R0 : Rel K c P σ H env) (h : RelT K P σ H v r) (e : fz env r = some (d, env')) : ∃ P', Rel K c P' σ H env' ∧ Stp P H P' H ∧ Dq K (hid P' H) v d := by
  cases r with
  | d x =>
    cases e
    exact ⟨P, R0, Stp.refl _ _, h⟩
  | bor i =>
    have h : σ[i]? = some (some v) := h
    cases he : env[i]? with
    | none => simp [Lp.fz, he] at e
    | some s =>
      cases s with
      | no => simp [Lp.fz, he] at e
      | sh d' =>
        simp [Lp.fz, he] at e
        obtain ⟨rfl, rfl⟩ := e
        obtain ⟨w, h1, h2⟩ := R0.sh i _ he
        rw [h] at h1
        cases h1
        exact ⟨P, R0, Stp.refl _ _, h2⟩
      | mu b d' =>
        cases b with
        | true => simp [Lp.fz, he] at e
        | false =>
          simp [Lp.fz, he] at e
          obtain ⟨rfl, rfl⟩ := e
          exact R0.freeze he h
/-- one after another -/
def fzs (env : Ev) : List R → Option (List PyData × Ev)
  | [] => some ([], env)
  | r :: rs => do
    let (d, e1) ← fz env r
    let (ds, e2) ← fzs e1 rs
    pure (d :: ds, e2)
theorem Rel.fzs : ∀ {rs : List R} {vs : List V} {P : Addr → Prop} {env env' : Ev} {ds : List PyData}, Rel K c P σ H env → RelTs K P σ H vs rs → fzs env rs = some (ds, env') → ∃ P', Rel K c P' σ H env' ∧ Stp P H P' H ∧ DqAll K (hid P' H) vs ds
  | [], _, P, env, env', ds, R0, .nil, e => by
    cases e
    exact ⟨P, R0, Stp.refl _ _, .nil⟩
  | r :: rs, _, P, env, env', ds, R0, .cons h t, e => by
    unfold Lp.fzs at e
    simp only [Option.bind_eq_bind, Option.bind_eq_some_iff, Option.pure_def, Option.some.injEq] at e
    obtain ⟨⟨d1, e1⟩, k1, ⟨ds1, e2⟩, k2, k3⟩ := e
    cases k3
    obtain ⟨P1, R1, s1, q1⟩ := R0.fz h k1
    obtain ⟨P2, R2, s2, q2⟩ := Rel.fzs R1 (t.step s1) k2
    exact ⟨P2, R2, s1.trans s2, .cons (q1.mono s2) q2⟩
end
end L2.Lp

set_option Elab.async false
set_option linter.all false
set_option maxRecDepth 100000
set_option maxHeartbeats 4000000
/-! Lp1: expressions as functions of the slots. -/
namespace L2.Lp
open PySem PySem.Spec L2
abbrev Sf := List Sl → Option (R × List Sl)
abbrev Tf := List Sl → Option (Bool × List Sl)
/-- the reading of an expression whose meaning is f -/
def tE (K : PySem.W.Frag) (c : Cn) (f : Sf) : TE := fun σ H Q => ∃ (P : Addr → Prop) (env : List Sl) (r : R) (env' : List Sl), Rel K c P σ H env ∧ f env = some (r, env') ∧
  ∀ (v : V) (P' : Addr → Prop) (H' : Hp), Rel K c P' σ H' env' → Stp P H P' H' → RelT K P' σ H' v r → Q v H'
def tT (K : PySem.W.Frag) (c : Cn) (f : Tf) : TT := fun σ H Q => ∃ (P : Addr → Prop) (env : List Sl) (b : Bool) (env' : List Sl), Rel K c P σ H env ∧ f env = some (b, env') ∧
  ∀ (P' : Addr → Prop) (H' : Hp), Rel K c P' σ H' env' → Stp P H P' H' → Q b H'
def eA : List Sf → List Sl → Option (List R × List Sl)
  | [], env => some ([], env)
  | f :: fs, env => do
    let (r, e1) ← f env
    let (rs, e2) ← eA fs e1
    pure (r :: rs, e2)
def tA (K : PySem.W.Frag) (c : Cn) (fs : List Sf) : TA := fun σ H Q => ∃ (P : Addr → Prop) (env : List Sl) (rs : List R) (env' : List Sl), Rel K c P σ H env ∧ eA fs env = some (rs, env') ∧
  ∀ (vs : List V) (P' : Addr → Prop) (H' : Hp), Rel K c P' σ H' env' → Stp P H P' H' → RelTs K P' σ H' vs rs → Q vs H'
abbrev SE (X : Cx) (c : Cn) (e : Expr) (f : Sf) : Prop := PE X e (tE X.K c f)
abbrev ST (X : Cx) (c : Cn) (e : Expr) (f : Tf) : Prop := PT X e (tT X.K c f)
abbrev SA (X : Cx) (c : Cn) (es : List Expr) (fs : List Sf) : Prop := PA X es (tA X.K c fs)
section
variable {X : Cx} {c : Cn} {e a b : Expr} {es : List Expr} {f fa fb : Sf} {fs : List Sf} {pos : Pos}
theorem imp {t t' : TE} (h : PE X e t) (k : ∀ σ H Q, t' σ H Q → t σ H Q) : PE X e t' := ⟨fun pins s σ H Q I q => h.run pins s σ H Q I (k _ _ _ q)⟩
theorem impT {t t' : TT} (h : PT X e t) (k : ∀ σ H Q, t' σ H Q → t σ H Q) : PT X e t' := ⟨fun pins s σ H Q I q => h.run pins s σ H Q I (k _ _ _ q)⟩
theorem impA {t t' : TA} (h : PA X es t) (k : ∀ σ H Q, t' σ H Q → t σ H Q) : PA X es t' := ⟨fun pos pins s σ H Q I q => h.run pos pins s σ H Q I (k _ _ _ q)⟩

/-! ### names, constants -/
def fVar (i : Nat) : Sf := fun env => match env[i]? with
  | some (.sh d) => some (.d d, env)
  | some (.mu _ _) => some (.bor i, env)
  | _ => none
theorem se_var {i : Nat} {x : Str} (h : PE X (.Name x pos) (tVar i)) : SE X c (.Name x pos) (fVar i) := by
  refine imp h fun σ H Q q => ?_
  obtain ⟨P, env, r, env', R0, e, k⟩ := q
  cases he : env[i]? with
  | none => simp [fVar, he] at e
  | some s =>
    cases s with
    | no => simp [fVar, he] at e
    | sh d =>
      simp [fVar, he] at e
      obtain ⟨rfl, rfl⟩ := e
      obtain ⟨v, h1, h2⟩ := R0.sh i d he
      exact ⟨v, h1, k v P H R0 (Stp.refl _ _) h2⟩
    | mu b d =>
      simp [fVar, he] at e
      obtain ⟨rfl, rfl⟩ := e
      obtain ⟨a, h1, h2, _⟩ := R0.mu i b d he
      exact ⟨_, h1, k _ P H R0 (Stp.refl _ _) h1⟩
def fC (d : PyData) : Sf := fun env => some (.d d, env)
theorem se_c {v : V} {d : PyData} (h : PE X e (tC v)) (q : ∀ (P : Addr → Prop) (H : Hp), Dq X.K (hid P H) v d) : SE X c e (fC d) := by
  refine imp h fun σ H Q ⟨P, env, r, env', R0, e, k⟩ => ?_
  cases e
  exact k v P H R0 (Stp.refl _ _) (q P H)
theorem se_int {i j} : SE X c (.Constant (.int i) j pos) (fC (.int i)) := se_c pe_int fun _ _ => .int i
theorem se_bl {b : Bool} {j} : SE X c (.Constant (.bool b) j pos) (fC (.bool b)) := se_c pe_bl fun _ _ => .bl b
theorem se_non {j} : SE X c (.Constant .none j pos) (fC .none) := se_c pe_non fun _ _ => .non
theorem se_str {x : Str} {j} : SE X c (.Constant (.str x) j pos) (fC (.str x)) := se_c pe_str fun _ _ => .str x

/-! ### arguments -/
theorem sa_nil : SA X c [] [] := by
  refine impA pa_nil fun σ H Q ⟨P, env, r, env', R0, e, k⟩ => ?_
  cases e
  exact k [] P H R0 (Stp.refl _ _) .nil
theorem sa_cons (ha : SE X c e f) (hr : SA X c es fs) (hs : starEach (e :: es) X.env = (false, eval e X.env) :: starEach es X.env := by rfl) : SA X c (e :: es) (f :: fs) := by
  refine impA (pa_cons ha hr hs) fun σ H Q ⟨P, env, rs, env', R0, q, k⟩ => ?_
  simp only [eA, Option.bind_eq_bind, Option.bind_eq_some_iff, Option.pure_def, Option.some.injEq] at q
  obtain ⟨⟨r1, e1⟩, k1, ⟨rs2, e2⟩, k2, k3⟩ := q
  cases k3
  refine ⟨P, env, r1, e1, R0, k1, fun v P1 H1 R1 s1 q1 => ?_⟩
  refine ⟨P1, e1, rs2, e2, R1, k2, fun vs P2 H2 R2 s2 q2 => ?_⟩
  exact k _ P2 H2 R2 (s1.trans s2) (.cons (q1.step s2) q2)
def fTup (fs : List Sf) : Sf := fun env => do
  let (rs, e1) ← eA fs env
  let (ds, e2) ← fzs e1 rs
  pure (.d (.tuple ds), e2)
def fLst (fs : List Sf) : Sf := fun env => do
  let (rs, e1) ← eA fs env
  let (ds, e2) ← fzs e1 rs
  pure (.d (.list ds), e2)
theorem eA_len : ∀ {fs : List Sf} {env env' : List Sl} {rs : List R}, eA fs env = some (rs, env') → rs.length = fs.length
  | [], _, _, _, h => by cases h; rfl
  | f :: fs, env, env', rs, h => by
    simp only [eA, Option.bind_eq_bind, Option.bind_eq_some_iff, Option.pure_def, Option.some.injEq] at h
    obtain ⟨⟨r1, e1⟩, k1, ⟨rs2, e2⟩, k2, k3⟩ := h
    cases k3
    simp [eA_len k2]
theorem RelTs.len {K : PySem.W.Frag} {P : Addr → Prop} {σ : St} {H : Hp} : ∀ {vs : List V} {rs : List R}, RelTs K P σ H vs rs → vs.length = rs.length
  | _, _, .nil => rfl
  | _, _, .cons _ b => by simp [RelTs.len b]
theorem upd_ext {H : Hp} {p : Addr} {o : HO} (h : H p = none) : Same H (upd H p o) := fun b x e => by
  rw [upd_ne (ne_of_none e h)]
  exact e
theorem Rel.fresh {K : PySem.W.Frag} {P : Addr → Prop} {σ : St} {H : Hp} {env : List Sl} {p : Addr} (R0 : Rel K c P σ H env) (h : H p = none) : ¬ P p := fun q => R0.pt p q h
theorem se_tup {x1} (h : SA X c es fs) (hl : fs.length ≤ 1000 := by decide) : SE X c (.Tuple es x1 pos) (fTup fs) := by
  refine imp (pe_tup h) fun σ H Q ⟨P, env, r, env', R0, q, k⟩ => ?_
  simp only [fTup, Option.bind_eq_bind, Option.bind_eq_some_iff, Option.pure_def, Option.some.injEq] at q
  obtain ⟨⟨rs, e1⟩, k1, ⟨ds, e2⟩, k2, k3⟩ := q
  cases k3
  refine ⟨P, env, rs, e1, R0, k1, fun vs P1 H1 R1 s1 q1 => ?_⟩
  obtain ⟨P2, R2, s2, q2⟩ := R1.fzs q1 k2
  have hz : vs.length ≤ sizeLine := by rw [q1.len, eA_len k1, sizeLine_eq]; omega
  refine ⟨hz, fun p hp => ?_⟩
  have s3 := upd_ext (o := .tup vs) hp
  refine k _ P2 _ (R2.same s3) (s1.trans (s2.trans (hid_same s3))) ?_
  refine .tup (SqT.of (hid_some.mpr ⟨R2.fresh hp, upd_same⟩)) (by rw [← q2.len]; exact hz) (q2.mono (hid_same s3))
theorem se_lst (h : SA X c es fs) (hl : fs.length ≤ 1000 := by decide) : SE X c (.List es pos) (fLst fs) := by
  refine imp (pe_lst h) fun σ H Q ⟨P, env, r, env', R0, q, k⟩ => ?_
  simp only [fLst, Option.bind_eq_bind, Option.bind_eq_some_iff, Option.pure_def, Option.some.injEq] at q
  obtain ⟨⟨rs, e1⟩, k1, ⟨ds, e2⟩, k2, k3⟩ := q
  cases k3
  refine ⟨P, env, rs, e1, R0, k1, fun vs P1 H1 R1 s1 q1 => ?_⟩
  obtain ⟨P2, R2, s2, q2⟩ := R1.fzs q1 k2
  have hz : vs.length ≤ sizeLine := by rw [q1.len, eA_len k1, sizeLine_eq]; omega
  refine ⟨hz, fun p hp => ?_⟩
  have s3 := upd_ext (o := .lst vs) hp
  refine k _ P2 _ (R2.same s3) (s1.trans (s2.trans (hid_same s3))) ?_
  refine .lst (SqL.of (hid_some.mpr ⟨R2.fresh hp, upd_same⟩)) (by rw [← q2.len]; exact hz) (q2.mono (hid_same s3))

/-! ### operations by values -/
/-- what is known when an operation ends: nothing that stood has changed; the value is the datum -/
def Fin1 (K : PySem.W.Frag) (P : Addr → Prop) (H : Hp) (d : PyData) (Q : VK) : Prop := ∀ v H', Same H H' → Dq K (hid P H') v d → Q v H'
/-- the two-place operation r computes g -/
def OpG (K : PySem.W.Frag) (r : R2) (g : PyData → PyData → Option PyData) : Prop :=
  ∀ (x y : V) (H : Hp) (P : Addr → Prop) (d1 d2 d : PyData) (Q : VK), Da K P H x d1 → Da K P H y d2 → (∀ a, P a → H a ≠ none) → g d1 d2 = some d → Fin1 K P H d Q → r x y H Q
def CallG (K : PySem.W.Frag) (r : List V → Hp → VK → Prop) (g : List PyData → Option PyData) : Prop :=
  ∀ (xs : List V) (H : Hp) (P : Addr → Prop) (ds : List PyData) (d : PyData) (Q : VK), DaAll K P H xs ds → (∀ a, P a → H a ≠ none) → g ds = some d → Fin1 K P H d Q → r xs H Q
def fOp (g : PyData → PyData → Option PyData) (fa fb : Sf) : Sf := fun env => do
  let (r1, e1) ← fa env
  let (r2, e2) ← fb e1
  let d1 ← res e2 r1
  let d2 ← res e2 r2
  let d ← g d1 d2
  pure (.d d, e2)
theorem op_core {r : R2} {g : PyData → PyData → Option PyData} (hg : OpG X.K r g) {σ : St} {H : Hp} {Q : VK} (h : tE X.K c (fOp g fa fb) σ H Q) : tOp r (tE X.K c fa) (tE X.K c fb) σ H Q := by
  obtain ⟨P, env, r0, env', R0, q, k⟩ := h
  simp only [fOp, Option.bind_eq_bind, Option.bind_eq_some_iff, Option.pure_def, Option.some.injEq] at q
  obtain ⟨⟨r1, e1⟩, k1, ⟨r2, e2⟩, k2, d1, k3, d2, k4, d, k5, k6⟩ := q
  cases k6
  refine ⟨P, env, r1, e1, R0, k1, fun x P1 H1 R1 s1 q1 => ?_⟩
  refine ⟨P1, e1, r2, e2, R1, k2, fun y P2 H2 R2 s2 q2 => ?_⟩
  refine hg x y H2 P2 d1 d2 d Q (R2.res (q1.step s2) k3) (R2.res q2 k4) R2.pt k5 fun v H' s q => ?_
  exact k v P2 H' (R2.same s) (s1.trans (s2.trans (hid_same s))) q
theorem se_op {op : Operator} {r : R2} {g : PyData → PyData → Option PyData} (ho : OpR X (binaryOp op) r) (hg : OpG X.K r g) (ha : SE X c a fa) (hb : SE X c b fb) : SE X c (.BinOp a op b pos) (fOp g fa fb) :=
  imp (pe_op ho ha hb) fun _ _ _ h => op_core hg h
theorem se_cmp {op : CmpOp} {r : R2} {g : PyData → PyData → Option PyData} (ho : OpR X (compareOp op) r) (hg : OpG X.K r g) (ha : SE X c a fa) (hb : SE X c b fb) (hm : behindInMarks op b = false) : SE X c (.Compare a [op] [b] pos) (fOp g fa fb) :=
  imp (pe_cmpR ho ha hb hm) fun _ _ _ h => op_core hg h
theorem se_ix {r : R2} {g : PyData → PyData → Option PyData} (hr : IxR X r) (hg : OpG X.K r g) (ha : SE X c a fa) (hb : SE X c b fb) (hs : PlainIx b) : SE X c (.Subscript a b pos) (fOp g fa fb) :=
  imp (pe_ix hr ha hb hs) fun _ _ _ h => op_core hg h
/-- a value's datum is a bool: a test -/
def asB : R → Option Bool
  | .d (.bool b) => some b
  | _ => none
theorem asB_some {r : R} {b : Bool} (h : asB r = some b) : r = .d (.bool b) := by
  unfold asB at h
  split at h
  · cases h
    rfl
  · cases h
def fB (f : Sf) : Tf := fun env => do
  let (r, e1) ← f env
  let b ← asB r
  pure (b, e1)
theorem fB_some {f : Sf} {env env' : List Sl} {b : Bool} (h : fB f env = some (b, env')) : f env = some (.d (.bool b), env') := by
  simp only [fB, Option.bind_eq_bind, Option.bind_eq_some_iff, Option.pure_def, Option.some.injEq] at h
  obtain ⟨⟨r, e1⟩, k1, b1, k2, k3⟩ := h
  cases k3
  have k2 : asB r = some b := k2
  rw [asB_some k2] at k1
  exact k1
theorem test_core {f : Sf} {σ : St} {H : Hp} {Q : Bool → Hp → Prop} (h : tT X.K c (fB f) σ H Q) : tE X.K c f σ H fun x H' => ∃ k, x = .bl k ∧ Q k H' := by
  obtain ⟨P, env, b, env', R0, q, k⟩ := h
  refine ⟨P, env, _, _, R0, fB_some q, fun v P' H' R' s' q' => ?_⟩
  have q2 : Dq X.K (hid P' H') v (.bool b) := q'
  cases q2
  exact ⟨_, rfl, k P' H' R' s'⟩
theorem st_cmp {op : CmpOp} {r : R2} {g : PyData → PyData → Option PyData} (ho : OpR X (compareOp op) r) (hg : OpG X.K r g) (ha : SE X c a fa) (hb : SE X c b fb) (hm : behindInMarks op b = false) : ST X c (.Compare a [op] [b] pos) (fB (fOp g fa fb)) := by
  refine impT (pt_cmpR ho ha hb hm) fun σ H Q h => ?_
  obtain ⟨P, env, b0, env', R0, q, k⟩ := h
  have h2 : tE X.K c (fOp g fa fb) σ H fun x H' => ∃ k, x = .bl k ∧ Q k H' := test_core ⟨P, env, b0, env', R0, q, k⟩
  exact op_core hg h2
/-- any expression whose value is a bool -/
theorem st_val (h : SE X c e f) (he : ∀ whole, isTrue e X.env whole = (do let v ← whole; standAt e.pos; holding [v] (truthy v)) := by intro _; rfl) : ST X c e (fB f) :=
  impT (pt_val h he) fun σ H Q q => test_core q

/-! ### built-in functions and types, called with arguments -/
def ress (env : List Sl) : List R → Option (List PyData)
  | [] => some []
  | r :: rs => do
    let d ← res env r
    let ds ← ress env rs
    pure (d :: ds)
theorem Rel.ress {K : PySem.W.Frag} {P : Addr → Prop} {σ : St} {H : Hp} {env : List Sl} (R0 : Rel K c P σ H env) : ∀ {rs : List R} {vs : List V} {ds : List PyData}, RelTs K P σ H vs rs → ress env rs = some ds → DaAll K P H vs ds
  | _, _, _, .nil, e => by
    cases e
    exact .nil
  | _, _, _, .cons h t, e => by
    simp only [Lp.ress, Option.bind_eq_bind, Option.bind_eq_some_iff, Option.pure_def, Option.some.injEq] at e
    obtain ⟨d, k1, ds, k2, rfl⟩ := e
    exact .cons (R0.res h k1) (Rel.ress R0 t k2)
def fCall (g : List PyData → Option PyData) (fs : List Sf) : Sf := fun env => do
  let (rs, e1) ← eA fs env
  let ds ← ress e1 rs
  let d ← g ds
  pure (.d d, e1)
theorem call_core {r : List V → Hp → VK → Prop} {g : List PyData → Option PyData} (hg : CallG X.K r g) {σ : St} {H : Hp} {Q : VK} (h : tE X.K c (fCall g fs) σ H Q) : tCB r (tA X.K c fs) σ H Q := by
  obtain ⟨P, env, r0, env', R0, q, k⟩ := h
  simp only [fCall, Option.bind_eq_bind, Option.bind_eq_some_iff, Option.pure_def, Option.some.injEq] at q
  obtain ⟨⟨rs, e1⟩, k1, ds, k2, d, k3, k4⟩ := q
  cases k4
  refine ⟨P, env, rs, e1, R0, k1, fun vs P1 H1 R1 s1 q1 => ?_⟩
  refine hg vs H1 P1 ds d Q (R1.ress q1 k2) R1.pt k3 fun v H' s q => ?_
  exact k v P1 H' (R1.same s) (s1.trans (hid_same s)) q
theorem se_callB {x : Str} {p : Pos} {id : String} {r : List V → Hp → VK → Prop} {g : List PyData → Option PyData} (hc : CallR X (.builtin id) r) (hg : CallG X.K r g) (hgl : Gl X x) (hm : X.mg x = none) (hv : bootBuiltins x = some (.builtin id)) (ha : SA X c (e :: es) fs)
    (hn : x ≠ "__name__" := by decide) (hdb : (x == ("__debug__" : Str)) = false := by decide)
    (he : starEach (e :: es) X.env = (false, eval e X.env) :: starEach es X.env := by rfl) (hpl : (backTo pos (starEach es X.env)).any (·.1) = false := by rfl) : SE X c (.Call (.Name x p) (e :: es) [] pos) (fCall g fs) :=
  imp (pe_callB hc hgl hm hv ha hn hdb he hpl) fun _ _ _ h => call_core hg h
theorem se_callTy {x : Str} {p : Pos} {id : String} {r : List V → Hp → VK → Prop} {g : List PyData → Option PyData} (hc : CallR X (.type id) r) (hg : CallG X.K r g) (hgl : Gl X x) (hm : X.mg x = none) (hv : bootBuiltins x = some (.type id)) (ha : SA X c (e :: es) fs)
    (hn : x ≠ "__name__" := by decide) (hdb : (x == ("__debug__" : Str)) = false := by decide)
    (he : starEach (e :: es) X.env = (false, eval e X.env) :: starEach es X.env := by rfl) (hpl : (backTo pos (starEach es X.env)).any (·.1) = false := by rfl) : SE X c (.Call (.Name x p) (e :: es) [] pos) (fCall g fs) :=
  imp (pe_callTy hc hgl hm hv ha hn hdb he hpl) fun _ _ _ h => call_core hg h

/-! ### and, or, not, x if t else y -/
def fAnd (fa fb : Tf) : Tf := fun env => do
  let (b, e1) ← fa env
  if b then fb e1 else some (false, e1)
def fOr (fa fb : Tf) : Tf := fun env => do
  let (b, e1) ← fa env
  if b then some (true, e1) else fb e1
def fNot (fa : Tf) : Tf := fun env => do
  let (b, e1) ← fa env
  pure (!b, e1)
def fIf (t : Tf) (fa fb : Sf) : Sf := fun env => do
  let (b, e1) ← t env
  if b then fa e1 else fb e1
/-- a test as a value -/
def fV (t : Tf) : Sf := fun env => do
  let (b, e1) ← t env
  pure (.d (.bool b), e1)
abbrev SW (X : Cx) (c : Cn) (e : Expr) (f : Tf) : Prop := PW X e (tT X.K c f)
variable {ta tb : Tf} {rest : List Expr}
theorem impW {t t' : TT} (h : PW X e t) (k : ∀ σ H Q, t' σ H Q → t σ H Q) : PW X e t' := ⟨fun whole pins s σ H Q I q => h.run whole pins s σ H Q I (k _ _ _ q)⟩
theorem and_core {σ : St} {H : Hp} {Q : Bool → Hp → Prop} (h : tT X.K c (fAnd ta tb) σ H Q) : tAnd (tT X.K c ta) (tT X.K c tb) σ H Q := by
  obtain ⟨P, env, b, env', R0, q, k⟩ := h
  simp only [fAnd, Option.bind_eq_bind, Option.bind_eq_some_iff] at q
  obtain ⟨⟨b1, e1⟩, k1, k2⟩ := q
  refine ⟨P, env, b1, e1, R0, k1, fun P1 H1 R1 s1 => ?_⟩
  cases b1 with
  | true => exact ⟨P1, e1, b, env', R1, k2, fun P2 H2 R2 s2 => k P2 H2 R2 (s1.trans s2)⟩
  | false =>
    cases k2
    exact k P1 H1 R1 s1
theorem or_core {σ : St} {H : Hp} {Q : Bool → Hp → Prop} (h : tT X.K c (fOr ta tb) σ H Q) : tOr (tT X.K c ta) (tT X.K c tb) σ H Q := by
  obtain ⟨P, env, b, env', R0, q, k⟩ := h
  simp only [fOr, Option.bind_eq_bind, Option.bind_eq_some_iff] at q
  obtain ⟨⟨b1, e1⟩, k1, k2⟩ := q
  refine ⟨P, env, b1, e1, R0, k1, fun P1 H1 R1 s1 => ?_⟩
  cases b1 with
  | false => exact ⟨P1, e1, b, env', R1, k2, fun P2 H2 R2 s2 => k P2 H2 R2 (s1.trans s2)⟩
  | true =>
    cases k2
    exact k P1 H1 R1 s1
theorem sw_and1 (ha : ST X c a ta) : SW X c (.BoolOp .And [a] pos) ta := pw_and1 ha
theorem sw_or1 (ha : ST X c a ta) : SW X c (.BoolOp .Or [a] pos) ta := pw_or1 ha
theorem sw_and (ha : ST X c a ta) (hb : SW X c (.BoolOp .And (b :: rest) pos) tb) : SW X c (.BoolOp .And (a :: b :: rest) pos) (fAnd ta tb) := impW (pw_and ha hb) fun _ _ _ h => and_core h
theorem sw_or (ha : ST X c a ta) (hb : SW X c (.BoolOp .Or (b :: rest) pos) tb) : SW X c (.BoolOp .Or (a :: b :: rest) pos) (fOr ta tb) := impW (pw_or ha hb) fun _ _ _ h => or_core h
theorem st_not (ha : ST X c a ta) : ST X c (.UnaryOp .Not a pos) (fNot ta) := by
  refine impT (pt_not ha) fun σ H Q h => ?_
  obtain ⟨P, env, b, env', R0, q, k⟩ := h
  simp only [fNot, Option.bind_eq_bind, Option.bind_eq_some_iff, Option.pure_def, Option.some.injEq] at q
  obtain ⟨⟨b1, e1⟩, k1, k2⟩ := q
  cases k2
  exact ⟨P, env, b1, e1, R0, k1, fun P1 H1 R1 s1 => k P1 H1 R1 s1⟩
theorem se_if {t : Expr} (hc : ST X c t ta) (ha : SE X c a fa) (hb : SE X c b fb) : SE X c (.IfExp t a b pos) (fIf ta fa fb) := by
  refine imp (pe_ifExp hc ha hb) fun σ H Q h => ?_
  obtain ⟨P, env, r, env', R0, q, k⟩ := h
  simp only [fIf, Option.bind_eq_bind, Option.bind_eq_some_iff] at q
  obtain ⟨⟨b1, e1⟩, k1, k2⟩ := q
  refine ⟨P, env, b1, e1, R0, k1, fun P1 H1 R1 s1 => ?_⟩
  cases b1 with
  | true => exact ⟨P1, e1, r, env', R1, k2, fun v P2 H2 R2 s2 => k v P2 H2 R2 (s1.trans s2)⟩
  | false => exact ⟨P1, e1, r, env', R1, k2, fun v P2 H2 R2 s2 => k v P2 H2 R2 (s1.trans s2)⟩
/-- a and b, a or b as values that are bools -/
def fAndV (fa fb : Sf) : Sf := fun env => do
  let (b, e1) ← fB fa env
  if b then fb e1 else some (.d (.bool false), e1)
def fOrV (fa fb : Sf) : Sf := fun env => do
  let (b, e1) ← fB fa env
  if b then some (.d (.bool true), e1) else fb e1
theorem se_one {op} (h : SE X c a f) : SE X c (.BoolOp op [a] pos) f := pe_one h
theorem se_and (ha : SE X c a fa) (hb : SE X c (.BoolOp .And (b :: rest) pos) fb) : SE X c (.BoolOp .And (a :: b :: rest) pos) (fAndV fa fb) := by
  refine imp (pe_and ha hb) fun σ H Q h => ?_
  obtain ⟨P, env, r, env', R0, q, k⟩ := h
  simp only [fAndV, Option.bind_eq_bind, Option.bind_eq_some_iff] at q
  obtain ⟨⟨b1, e1⟩, k1, k2⟩ := q
  refine ⟨P, env, _, e1, R0, fB_some k1, fun v P1 H1 R1 s1 q1 => ?_⟩
  cases q1
  refine ⟨b1, rfl, ?_⟩
  cases b1 with
  | true => exact ⟨P1, e1, r, env', R1, k2, fun v P2 H2 R2 s2 => k v P2 H2 R2 (s1.trans s2)⟩
  | false =>
    cases k2
    exact k _ P1 H1 R1 s1 (.bl false)
theorem se_or (ha : SE X c a fa) (hb : SE X c (.BoolOp .Or (b :: rest) pos) fb) : SE X c (.BoolOp .Or (a :: b :: rest) pos) (fOrV fa fb) := by
  refine imp (pe_or ha hb) fun σ H Q h => ?_
  obtain ⟨P, env, r, env', R0, q, k⟩ := h
  simp only [fOrV, Option.bind_eq_bind, Option.bind_eq_some_iff] at q
  obtain ⟨⟨b1, e1⟩, k1, k2⟩ := q
  refine ⟨P, env, _, e1, R0, fB_some k1, fun v P1 H1 R1 s1 q1 => ?_⟩
  cases q1
  refine ⟨b1, rfl, ?_⟩
  cases b1 with
  | false => exact ⟨P1, e1, r, env', R1, k2, fun v P2 H2 R2 s2 => k v P2 H2 R2 (s1.trans s2)⟩
  | true =>
    cases k2
    exact k _ P1 H1 R1 s1 (.bl true)
def fNotV (fa : Sf) : Sf := fV (fNot (fB fa))
theorem se_not (ha : SE X c a fa) : SE X c (.UnaryOp .Not a pos) (fNotV fa) := by
  refine imp (pe_not ha) fun σ H Q h => ?_
  obtain ⟨P, env, r, env', R0, q, k⟩ := h
  simp only [fNotV, fV, fNot, Option.bind_eq_bind, Option.bind_eq_some_iff, Option.pure_def, Option.some.injEq] at q
  obtain ⟨⟨b, e1⟩, ⟨⟨b1, e2⟩, k1, k2⟩, k3⟩ := q
  cases k2
  cases k3
  refine ⟨P, env, _, _, R0, fB_some k1, fun v P1 H1 R1 s1 q1 => ?_⟩
  cases q1
  exact ⟨b1, rfl, k _ P1 H1 R1 s1 (.bl _)⟩
end
end L2.Lp

set_option Elab.async false
set_option linter.all false
set_option maxRecDepth 100000
set_option maxHeartbeats 4000000
/-! Lp2: fresh lists, what is walked, targets, comprehensions. -/
namespace L2.Lp
open PySem PySem.Spec L2
/-! ### lists that are made here -/
abbrev Ff := List Sl → Option (List PyData × List Sl)
def tF (K : PySem.W.Frag) (c : Cn) (f : Ff) : TE := fun σ H Q => ∃ (P : Addr → Prop) (env : List Sl) (ds : List PyData) (env' : List Sl), Rel K c P σ H env ∧ f env = some (ds, env') ∧
  ∀ (p : Addr) (xs : List V) (P' : Addr → Prop) (H' : Hp), Rel K c P' σ H' env' → Stp P H P' H' → DqAll K (hid P' H') xs ds → ds.length ≤ sizeLine → H' p = none → Q (.ref p) (upd H' p (.lst xs))
abbrev SF (X : Cx) (c : Cn) (e : Expr) (f : Ff) : Prop := PE X e (tF X.K c f)
/-- as a datum -/
def fL (f : Ff) : Sf := fun env => do
  let (ds, e1) ← f env
  pure (.d (.list ds), e1)
section
variable {X : Cx} {c : Cn} {e a b : Expr} {es : List Expr} {f fa fb : Sf} {fs : List Sf} {pos : Pos}
theorem se_fl {f : Ff} (h : SF X c e f) : SE X c e (fL f) := by
  refine imp h fun σ H Q ⟨P, env, r, env', R0, q, k⟩ => ?_
  simp only [fL, Option.bind_eq_bind, Option.bind_eq_some_iff, Option.pure_def, Option.some.injEq] at q
  obtain ⟨⟨ds, e1⟩, k1, k2⟩ := q
  cases k2
  refine ⟨P, env, ds, e1, R0, k1, fun p xs P1 H1 R1 s1 q1 l1 hp => ?_⟩
  have s3 := upd_ext (o := .lst xs) hp
  refine k _ P1 _ (R1.same s3) (s1.trans (hid_same s3)) ?_
  exact .lst (SqL.of (hid_some.mpr ⟨R1.fresh hp, upd_same⟩)) l1 (q1.mono (hid_same s3))
def fDisp (fs : List Sf) : Ff := fun env => do
  let (rs, e1) ← eA fs env
  fzs e1 rs
theorem sf_lst (h : SA X c es fs) (hl : fs.length ≤ 1000 := by decide) : SF X c (.List es pos) (fDisp fs) := by
  refine imp (pe_lst h) fun σ H Q ⟨P, env, ds, env', R0, q, k⟩ => ?_
  simp only [fDisp, Option.bind_eq_bind, Option.bind_eq_some_iff] at q
  obtain ⟨⟨rs, e1⟩, k1, k2⟩ := q
  refine ⟨P, env, rs, e1, R0, k1, fun vs P1 H1 R1 s1 q1 => ?_⟩
  obtain ⟨P2, R2, s2, q2⟩ := R1.fzs q1 k2
  have hz : vs.length ≤ sizeLine := by rw [q1.len, eA_len k1, sizeLine_eq]; omega
  exact ⟨hz, fun p hp => k p vs P2 H1 R2 (s1.trans s2) q2 (by rw [← q2.len]; exact hz) hp⟩
/-- two-place operations that make a list -/
def FreshG (K : PySem.W.Frag) (r : R2) (g : PyData → PyData → Option (List PyData)) : Prop :=
  ∀ (x y : V) (H : Hp) (P : Addr → Prop) (d1 d2 : PyData) (ds : List PyData) (Q : VK), Da K P H x d1 → Da K P H y d2 → g d1 d2 = some ds → (∀ p xs, DqAll K (hid P H) xs ds → ds.length ≤ sizeLine → H p = none → Q (.ref p) (upd H p (.lst xs))) → r x y H Q
def FreshCG (K : PySem.W.Frag) (r : List V → Hp → VK → Prop) (g : List PyData → Option (List PyData)) : Prop :=
  ∀ (xs : List V) (H : Hp) (P : Addr → Prop) (ds : List PyData) (d : List PyData) (Q : VK), DaAll K P H xs ds → g ds = some d → (∀ p ys, DqAll K (hid P H) ys d → d.length ≤ sizeLine → H p = none → Q (.ref p) (upd H p (.lst ys))) → r xs H Q
def fOpF (g : PyData → PyData → Option (List PyData)) (fa fb : Sf) : Ff := fun env => do
  let (r1, e1) ← fa env
  let (r2, e2) ← fb e1
  let d1 ← res e2 r1
  let d2 ← res e2 r2
  let ds ← g d1 d2
  pure (ds, e2)
theorem sf_op {op : Operator} {r : R2} {g : PyData → PyData → Option (List PyData)} (ho : OpR X (binaryOp op) r) (hg : FreshG X.K r g) (ha : SE X c a fa) (hb : SE X c b fb) : SF X c (.BinOp a op b pos) (fOpF g fa fb) := by
  refine imp (pe_op ho ha hb) fun σ H Q ⟨P, env, ds, env', R0, q, k⟩ => ?_
  simp only [fOpF, Option.bind_eq_bind, Option.bind_eq_some_iff, Option.pure_def, Option.some.injEq] at q
  obtain ⟨⟨r1, e1⟩, k1, ⟨r2, e2⟩, k2, d1, k3, d2, k4, d, k5, k6⟩ := q
  cases k6
  refine ⟨P, env, r1, e1, R0, k1, fun x P1 H1 R1 s1 q1 => ?_⟩
  refine ⟨P1, e1, r2, e2, R1, k2, fun y P2 H2 R2 s2 q2 => ?_⟩
  exact hg x y H2 P2 d1 d2 _ Q (R2.res (q1.step s2) k3) (R2.res q2 k4) k5 fun p xs q l hp => k p xs P2 H2 R2 (s1.trans s2) q l hp
def fCallF (g : List PyData → Option (List PyData)) (fs : List Sf) : Ff := fun env => do
  let (rs, e1) ← eA fs env
  let ds ← ress e1 rs
  let d ← g ds
  pure (d, e1)
theorem callF_core {r : List V → Hp → VK → Prop} {g : List PyData → Option (List PyData)} (hg : FreshCG X.K r g) {σ : St} {H : Hp} {Q : VK} (h : tF X.K c (fCallF g fs) σ H Q) : tCB r (tA X.K c fs) σ H Q := by
  obtain ⟨P, env, ds, env', R0, q, k⟩ := h
  simp only [fCallF, Option.bind_eq_bind, Option.bind_eq_some_iff, Option.pure_def, Option.some.injEq] at q
  obtain ⟨⟨rs, e1⟩, k1, es, k2, d, k3, k4⟩ := q
  cases k4
  refine ⟨P, env, rs, e1, R0, k1, fun vs P1 H1 R1 s1 q1 => ?_⟩
  exact hg vs H1 P1 es _ Q (R1.ress q1 k2) k3 fun p xs q l hp => k p xs P1 H1 R1 s1 q l hp
theorem sf_callB {x : Str} {p : Pos} {id : String} {r : List V → Hp → VK → Prop} {g : List PyData → Option (List PyData)} (hc : CallR X (.builtin id) r) (hg : FreshCG X.K r g) (hgl : Gl X x) (hm : X.mg x = none) (hv : bootBuiltins x = some (.builtin id)) (ha : SA X c (e :: es) fs)
    (hn : x ≠ "__name__" := by decide) (hdb : (x == ("__debug__" : Str)) = false := by decide)
    (he : starEach (e :: es) X.env = (false, eval e X.env) :: starEach es X.env := by rfl) (hpl : (backTo pos (starEach es X.env)).any (·.1) = false := by rfl) : SF X c (.Call (.Name x p) (e :: es) [] pos) (fCallF g fs) :=
  imp (pe_callB hc hgl hm hv ha hn hdb he hpl) fun _ _ _ h => callF_core hg h
theorem sf_callTy {x : Str} {p : Pos} {id : String} {r : List V → Hp → VK → Prop} {g : List PyData → Option (List PyData)} (hc : CallR X (.type id) r) (hg : FreshCG X.K r g) (hgl : Gl X x) (hm : X.mg x = none) (hv : bootBuiltins x = some (.type id)) (ha : SA X c (e :: es) fs)
    (hn : x ≠ "__name__" := by decide) (hdb : (x == ("__debug__" : Str)) = false := by decide)
    (he : starEach (e :: es) X.env = (false, eval e X.env) :: starEach es X.env := by rfl) (hpl : (backTo pos (starEach es X.env)).any (·.1) = false := by rfl) : SF X c (.Call (.Name x p) (e :: es) [] pos) (fCallF g fs) :=
  imp (pe_callTy hc hgl hm hv ha hn hdb he hpl) fun _ _ _ h => callF_core hg h

/-! ### what is walked -/
/-- the iterator yields these data, whatever else comes meanwhile -/
def ItD (K : PySem.W.Frag) (J : It) (ds : List PyData) (P0 : Addr → Prop) (H0 : Hp) : Prop :=
  ∀ (P : Addr → Prop) (H : Hp), Stp P0 H0 P H → (∀ a, P a → H a ≠ none) → ∀ i : Nat,
    (∀ d, ds[i]? = some d → J.go i H ∧ ∀ x H', J.yld i H x H' → Same H H' ∧ Dq K (hid P H') x d) ∧ (i = ds.length → J.stop i H)
def tI (K : PySem.W.Frag) (c : Cn) (f : Ff) : TI := fun σ H R => ∃ (P : Addr → Prop) (env : List Sl) (ds : List PyData) (env' : List Sl), Rel K c P σ H env ∧ f env = some (ds, env') ∧
  ∀ (J : It) (P' : Addr → Prop) (H' : Hp), Rel K c P' σ H' env' → Stp P H P' H' → ItD K J ds P' H' → ds.length ≤ sizeLine → R J H'
abbrev SI (X : Cx) (c : Cn) (tg e : Expr) (f : Ff) : Prop := PI X tg e (tI X.K c f)
theorem impI {tg : Expr} {t t' : TI} (h : PI X tg e t) (k : ∀ σ H Q, t' σ H Q → t σ H Q) : PI X tg e t' := ⟨fun pins s σ H R I q => h.run pins s σ H R I (k _ _ _ q)⟩
/-- a list or a tuple -/
def iSeq (K : PySem.W.Frag) (tl : TE) : TI := fun σ H R => tl σ H fun x H1 => ∃ a, x = .ref a ∧ (((∃ xs, SqL K H1 a xs) ∧ R (Itl K a) H1) ∨ ((∃ xs, SqT K H1 a xs) ∧ R (Itt K a) H1))
theorem pi_seq {tg l : Expr} {tl : TE} (hl : PE X l tl) : PI X tg l (iSeq X.K tl) := by
  constructor
  intro pins s σ H R I h
  refine thn (hl.run pins s σ H (fun x H1 => ∃ a, x = .ref a ∧ (((∃ xs, SqL X.K H1 a xs) ∧ R (Itl X.K a) H1) ∨ ((∃ xs, SqT X.K H1 a xs) ∧ R (Itt X.K a) H1))) I h) ?_
  rintro _ t ⟨_, G, J, seen, a, rfl, kinds⟩
  cases seen
  have fresh := J.fpOk (Nat.le_refl t.heap.objs.size) (J.hok.fresh (Nat.le_refl _))
  have one : ∀ b ∈ [t.heap.objs.size], FpOk X pins G b := fun b m => (List.mem_singleton.mp m).symm ▸ fresh
  have older : ∀ ob, Inv X pins σ G { t with heap := t.heap.push ob } := fun ob => J.kept (t' := t.toks) fun b o e => Heap.get?_push_of_some ob e
  rcases kinds with ⟨⟨_, is⟩, k⟩ | ⟨⟨_, is⟩, k⟩
  · have p := (J.list is).choose_spec.2.1
    exact wpAny_pyIter_list p.isList ⟨_, _, _, _, G, rfl, older _, turn_list a _, ⟨_, Heap.get?_push_size _ rfl, rfl, rfl⟩, one, k⟩
  · have p := (J.tuple is).choose_spec.2.1
    exact wpAny_pyIter_tuple p ⟨_, _, _, _, G, rfl, older _, turn_tuple a _, ⟨_, Heap.get?_push_size _ rfl, rfl, rfl⟩, one, k⟩
/-- the items of a list or a tuple -/
def items : PyData → Option (List PyData)
  | .list ds => some ds
  | .tuple ds => some ds
  | _ => none
def fSeq (f : Sf) : Ff := fun env => do
  let (r, e1) ← f env
  let (d, e2) ← fz e1 r
  let ds ← items d
  pure (ds, e2)
theorem si_seq {tg : Expr} (h : SE X c e f) : SI X c tg e (fSeq f) := by
  refine impI (pi_seq h) fun σ H R ⟨P, env, ds, env', R0, q, k⟩ => ?_
  simp only [fSeq, Option.bind_eq_bind, Option.bind_eq_some_iff, Option.pure_def, Option.some.injEq] at q
  obtain ⟨⟨r1, e1⟩, k1, ⟨d, e2⟩, k2, ds2, k3, k4⟩ := q
  cases k4
  refine ⟨P, env, r1, e1, R0, k1, fun v P1 H1 R1 s1 q1 => ?_⟩
  obtain ⟨P2, R2, s2, q2⟩ := R1.fz q1 k2
  cases d with
  | list es =>
    cases k3
    cases q2 with
    | lst hs hl ha =>
      rename_i a xs
      refine ⟨a, rfl, .inl ⟨⟨xs, same_sqL (hid_sub _ _) hs⟩, k _ P2 H1 R2 (s1.trans s2) (fun P H st pt i => ⟨fun d hd => ?_, fun hi => ?_⟩) hl⟩⟩
      · obtain ⟨x, hx, qx⟩ := ha.got hd
        have hsH : SqL X.K H a xs := same_sqL (hid_sub _ _) (same_sqL st hs)
        refine ⟨⟨xs, x, hsH, hx⟩, fun y H' hy => ?_⟩
        obtain ⟨rfl, hy⟩ := hy
        have := hy xs hsH
        rw [hx] at this
        cases this
        exact ⟨Same.refl _, qx.mono st⟩
      · exact ⟨xs, same_sqL (hid_sub _ _) (same_sqL st hs), by rw [hi, ha.len]; exact Nat.le_refl _⟩
  | tuple es =>
    cases k3
    cases q2 with
    | tup hs hl ha =>
      rename_i a xs
      refine ⟨a, rfl, .inr ⟨⟨xs, same_sqT (hid_sub _ _) hs⟩, k _ P2 H1 R2 (s1.trans s2) (fun P H st pt i => ⟨fun d hd => ?_, fun hi => ?_⟩) hl⟩⟩
      · obtain ⟨x, hx, qx⟩ := ha.got hd
        have hsH : SqT X.K H a xs := same_sqT (hid_sub _ _) (same_sqT st hs)
        refine ⟨⟨xs, x, hsH, hx⟩, fun y H' hy => ?_⟩
        obtain ⟨rfl, hy⟩ := hy
        have := hy xs hsH
        rw [hx] at this
        cases this
        exact ⟨Same.refl _, qx.mono st⟩
      · exact ⟨xs, same_sqT (hid_sub _ _) (same_sqT st hs), by rw [hi, ha.len]; exact Nat.le_refl _⟩
  | _ => cases k3
/-- range(n) -/
def rangeD (lo : Int) (n : Nat) : List PyData := (List.range n).map fun i => .int (lo + (i : Nat))
def rng1 : List PyData → Option (List PyData)
  | [.int j] => if -(2 ^ 62) ≤ j ∧ j ≤ 16777216 then some (rangeD 0 j.toNat) else none
  | _ => none
def rng2 : List PyData → Option (List PyData)
  | [.int i, .int j] => if -(2 ^ 62) ≤ i ∧ i < 2 ^ 62 ∧ -(2 ^ 62) ≤ j ∧ j < 2 ^ 62 ∧ j - i ≤ 16777216 then some (rangeD i (j - i).toNat) else none
  | _ => none
theorem rangeD_len (lo : Int) (n : Nat) : (rangeD lo n).length = n := by simp [rangeD]
theorem itD_range {K : PySem.W.Frag} {lo : Int} {n : Nat} {P0 : Addr → Prop} {H0 : Hp} : ItD K (Itr lo n) (rangeD lo n) P0 H0 := by
  intro P H st pt i
  refine ⟨fun d hd => ?_, fun hi => ?_⟩
  · unfold rangeD at hd
    rw [List.getElem?_map] at hd
    by_cases hi : i < n
    · rw [List.getElem?_range hi] at hd
      cases hd
      refine ⟨hi, fun x H' ⟨e1, e2⟩ => ?_⟩
      subst e1 e2
      exact ⟨Same.refl _, .int _⟩
    · rw [List.getElem?_eq_none (by simpa using hi)] at hd
      cases hd
  · rw [rangeD_len] at hi
    exact Nat.le_of_eq hi.symm
theorem dq_int {K : PySem.W.Frag} {H : Hp} {v : V} {i : Int} (h : Dq K H v (.int i)) : v = .int i := by
  cases h
  rfl
theorem si_range1 {tg : Expr} {p : Pos} (hg : Gl X "range") (hm : X.mg "range" = none) (ha : SA X c [a] fs) (hs : starEach [a] X.env = [(false, eval a X.env)] := by rfl) : SI X c tg (.Call (.Name "range" p) [a] [] pos) (fCallF rng1 fs) := by
  refine impI (pi_range1 hg hm ha hs) fun σ H R ⟨P, env, ds, env', R0, q, k⟩ => ?_
  simp only [fCallF, Option.bind_eq_bind, Option.bind_eq_some_iff, Option.pure_def, Option.some.injEq] at q
  obtain ⟨⟨rs, e1⟩, k1, es, k2, d, k3, k4⟩ := q
  cases k4
  refine ⟨P, env, rs, e1, R0, k1, fun vs P1 H1 R1 s1 q1 => ?_⟩
  have q2 := (R1.ress q1 k2).dq
  unfold rng1 at k3
  split at k3
  · rename_i j
    split at k3
    · rename_i hj
      cases k3
      cases q2 with
      | cons h1 h2 =>
        cases h2
        cases dq_int h1
        refine ⟨j, rfl, hj.1, by omega, k _ P1 H1 R1 s1 itD_range ?_⟩
        rw [rangeD_len, sizeLine_eq]
        omega
    · cases k3
  · cases k3
theorem si_range2 {tg : Expr} {p : Pos} (hg : Gl X "range") (hm : X.mg "range" = none) (ha : SA X c [a, b] fs) (hs : starEach [a, b] X.env = [(false, eval a X.env), (false, eval b X.env)] := by rfl) (hs2 : starEach [b] X.env = [(false, eval b X.env)] := by rfl) :
    SI X c tg (.Call (.Name "range" p) [a, b] [] pos) (fCallF rng2 fs) := by
  refine impI (pi_range2 hg hm ha hs hs2) fun σ H R ⟨P, env, ds, env', R0, q, k⟩ => ?_
  simp only [fCallF, Option.bind_eq_bind, Option.bind_eq_some_iff, Option.pure_def, Option.some.injEq] at q
  obtain ⟨⟨rs, e1⟩, k1, es, k2, d, k3, k4⟩ := q
  cases k4
  refine ⟨P, env, rs, e1, R0, k1, fun vs P1 H1 R1 s1 q1 => ?_⟩
  have q2 := (R1.ress q1 k2).dq
  unfold rng2 at k3
  split at k3
  · rename_i i j
    split at k3
    · rename_i hj
      cases k3
      cases q2 with
      | cons h1 h2 =>
        cases h2 with
        | cons h2 h3 =>
          cases h3
          cases dq_int h1
          cases dq_int h2
          refine ⟨i, j, rfl, ⟨hj.1, hj.2.1, hj.2.2.1, hj.2.2.2.1⟩, k _ P1 H1 R1 s1 itD_range ?_⟩
          rw [rangeD_len, sizeLine_eq]
          omega
    · cases k3
  · cases k3
/-- enumerate(list) -/
def enumD (ds : List PyData) : List PyData := (List.range ds.length).zip ds |>.map fun (p : Nat × PyData) => .tuple [.int (p.1 : Nat), p.2]
def enumG : List PyData → Option (List PyData)
  | [.list ds] => some (enumD ds)
  | _ => none
def fEnum (fs : List Sf) : Ff := fun env => do
  let (rs, e1) ← eA fs env
  let (es, e2) ← fzs e1 rs
  let ds ← enumG es
  pure (ds, e2)
theorem enumD_get (ds : List PyData) (i : Nat) : (enumD ds)[i]? = ds[i]?.map fun d => PyData.tuple [.int (i : Nat), d] := by
  unfold enumD
  rw [List.getElem?_map]
  by_cases hi : i < ds.length
  · rw [(List.getElem?_zip_eq_some (z := (i, ds[i]))).mpr ⟨List.getElem?_range hi, List.getElem?_eq_getElem hi⟩, List.getElem?_eq_getElem hi]
    rfl
  · rw [List.getElem?_eq_none (by simpa using hi), List.getElem?_eq_none (by simpa using hi)]
    rfl
theorem enumD_len (ds : List PyData) : (enumD ds).length = ds.length := by simp [enumD]
theorem si_enum {p tpos : Pos} {elts : List Expr} {kk : Nat} (hg : Gl X "enumerate") (hm : X.mg "enumerate" = none) (ha : SA X c [e] fs) (hs : starEach [e] X.env = [(false, eval e X.env)] := by rfl) :
    SI X c (.Tuple elts kk tpos) (.Call (.Name "enumerate" p) [e] [] pos) (fEnum fs) := by
  refine impI (pi_enum hg hm ha hs) fun σ H R ⟨P, env, ds, env', R0, q, k⟩ => ?_
  simp only [fEnum, Option.bind_eq_bind, Option.bind_eq_some_iff, Option.pure_def, Option.some.injEq] at q
  obtain ⟨⟨rs, e1⟩, k1, ⟨es, e2⟩, k2, ds2, k3, k4⟩ := q
  cases k4
  refine ⟨P, env, rs, e1, R0, k1, fun vs P1 H1 R1 s1 q1 => ?_⟩
  obtain ⟨P2, R2, s2, q2⟩ := R1.fzs q1 k2
  replace k3 : enumG es = some ds := k3
  unfold enumG at k3
  split at k3
  · rename_i dl
    cases k3
    cases q2 with
    | cons h1 h2 =>
      cases h2
      cases h1 with
      | lst hs hl ha =>
        rename_i a xs
        refine ⟨a, xs, rfl, same_sqL (hid_sub _ _) hs, k _ P2 H1 R2 (s1.trans s2) (fun P H st pt i => ⟨fun d hd => ?_, fun hi => ?_⟩) (by rw [enumD_len]; exact hl)⟩
        · rw [enumD_get] at hd
          cases hdi : dl[i]? with
          | none => rw [hdi] at hd; cases hd
          | some d0 =>
            rw [hdi] at hd
            cases hd
            obtain ⟨x, hx, qx⟩ := ha.got hdi
            have hsH : SqL X.K H a xs := same_sqL (hid_sub _ _) (same_sqL st hs)
            refine ⟨⟨xs, x, hsH, hx⟩, fun y H' hy => ?_⟩
            obtain ⟨T, y', rfl, hT, rfl, hy⟩ := hy
            have := hy xs hsH
            rw [hx] at this
            cases this
            have s3 : Same H (upd H T (.tup [.int (i : Nat), x])) := upd_ext hT
            refine ⟨s3, .tup (SqT.of (hid_some.mpr ⟨fun z => pt T z hT, upd_same⟩)) (by rw [sizeLine_eq]; exact (by decide : 2 ≤ 16777216)) (.cons (.int _) (.cons ((qx.mono st).mono (hid_same s3)) .nil))⟩
        · exact ⟨xs, same_sqL (hid_sub _ _) (same_sqL st hs), by rw [hi, enumD_len, ha.len]; exact Nat.le_refl _⟩
  · cases k3
/-- zip of two lists, of two tuples -/
def zipD (ds es : List PyData) : List PyData := (ds.zip es).map fun p => .tuple [p.1, p.2]
def zipG : List PyData → Option (List PyData)
  | [.list ds, .list es] => some (zipD ds es)
  | [.tuple ds, .tuple es] => some (zipD ds es)
  | _ => none
def fZip (fs : List Sf) : Ff := fun env => do
  let (rs, e1) ← eA fs env
  let (es, e2) ← fzs e1 rs
  let ds ← zipG es
  pure (ds, e2)
theorem zipD_get (ds es : List PyData) (i : Nat) (d : PyData) : (zipD ds es)[i]? = some d ↔ ∃ x y, ds[i]? = some x ∧ es[i]? = some y ∧ d = .tuple [x, y] := by
  unfold zipD
  rw [List.getElem?_map]
  constructor
  · intro h
    cases hz : (ds.zip es)[i]? with
    | none => rw [hz] at h; cases h
    | some p =>
      rw [hz] at h
      cases h
      obtain ⟨h1, h2⟩ := List.getElem?_zip_eq_some.mp hz
      exact ⟨p.1, p.2, h1, h2, rfl⟩
  · rintro ⟨x, y, h1, h2, rfl⟩
    rw [(List.getElem?_zip_eq_some (z := (x, y))).mpr ⟨h1, h2⟩]
    rfl
theorem zipD_len (ds es : List PyData) : (zipD ds es).length = min ds.length es.length := by simp [zipD]
theorem min_end {a b : Nat} : a ≤ min a b ∨ b ≤ min a b := by
  rcases Nat.le_total a b with h | h
  · exact .inl (by rw [Nat.min_eq_left h]; exact Nat.le_refl _)
  · exact .inr (by rw [Nat.min_eq_right h]; exact Nat.le_refl _)
end
end L2.Lp

set_option Elab.async false
set_option linter.all false
set_option maxRecDepth 100000
set_option maxHeartbeats 4000000
/-! Lp3: zip, targets, comprehensions. -/
namespace L2.Lp
open PySem PySem.Spec L2
section
variable {X : Cx} {c : Cn} {e a b : Expr} {es : List Expr} {f fa fb : Sf} {fs : List Sf} {pos : Pos}
theorem dq_pair {K : PySem.W.Frag} {P : Addr → Prop} {H : Hp} {T : Addr} {x y : V} {d1 d2 : PyData} (hT : H T = none) (pt : ∀ a, P a → H a ≠ none) (h1 : Dq K (hid P H) x d1) (h2 : Dq K (hid P H) y d2) :
    Dq K (hid P (upd H T (.tup [x, y]))) (.ref T) (.tuple [d1, d2]) :=
  have s3 : Same H (upd H T (.tup [x, y])) := upd_ext hT
  .tup (SqT.of (hid_some.mpr ⟨fun z => pt T z hT, upd_same⟩)) (by rw [sizeLine_eq]; exact (by decide : 2 ≤ 16777216)) (.cons (h1.mono (hid_same s3)) (.cons (h2.mono (hid_same s3)) .nil))
theorem si_zip {p tpos : Pos} {elts : List Expr} {kk : Nat} (hg : Gl X "zip") (hm : X.mg "zip" = none) (ha : SA X c [a, b] fs) (hs : starEach [a, b] X.env = (false, eval a X.env) :: starEach [b] X.env := by rfl) (hpl : (backTo pos (starEach [b] X.env)).any (·.1) = false := by rfl) :
    SI X c (.Tuple elts kk tpos) (.Call (.Name "zip" p) [a, b] [] pos) (fZip fs) := by
  refine impI (RZ.pi_zipA hg hm ha hs hpl) fun σ H R ⟨P, env, ds, env', R0, q, k⟩ => ?_
  simp only [fZip, Option.bind_eq_bind, Option.bind_eq_some_iff, Option.pure_def, Option.some.injEq] at q
  obtain ⟨⟨rs, e1⟩, k1, ⟨es, e2⟩, k2, ds2, k3, k4⟩ := q
  cases k4
  refine ⟨P, env, rs, e1, R0, k1, fun vs P1 H1 R1 s1 q1 => ?_⟩
  obtain ⟨P2, R2, s2, q2⟩ := R1.fzs q1 k2
  replace k3 : zipG es = some ds := k3
  unfold zipG at k3
  split at k3
  · rename_i d1 d2
    cases k3
    cases q2 with
    | cons h1 h2 =>
      cases h2 with
      | cons h2 h3 =>
        cases h3
        cases h1 with
        | lst hs1 hl1 ha1 =>
          cases h2 with
          | lst hs2 hl2 ha2 =>
            rename_i a xs b ys
            refine ⟨a, b, xs, ys, rfl, .inl ⟨same_sqL (hid_sub _ _) hs1, same_sqL (hid_sub _ _) hs2, k _ P2 H1 R2 (s1.trans s2) (fun P H st pt i => ⟨fun d hd => ?_, fun hi => ?_⟩) ?_⟩⟩
            · obtain ⟨x0, y0, g1, g2, rfl⟩ := (zipD_get _ _ _ _).mp hd
              obtain ⟨x, hx, qx⟩ := ha1.got g1
              obtain ⟨y, hy, qy⟩ := ha2.got g2
              have hs1H : SqL X.K H a xs := same_sqL (hid_sub _ _) (same_sqL st hs1)
              have hs2H : SqL X.K H b ys := same_sqL (hid_sub _ _) (same_sqL st hs2)
              refine ⟨⟨xs, ys, x, y, hs1H, hs2H, hx, hy⟩, fun z H' hz => ?_⟩
              obtain ⟨T, x', y', rfl, hT, rfl, u1, u2⟩ := hz
              have w1 := u1 xs hs1H
              rw [hx] at w1
              cases w1
              have w2 := u2 ys hs2H
              rw [hy] at w2
              cases w2
              exact ⟨upd_ext hT, dq_pair hT pt (qx.mono st) (qy.mono st)⟩
            · refine ⟨xs, ys, same_sqL (hid_sub _ _) (same_sqL st hs1), same_sqL (hid_sub _ _) (same_sqL st hs2), ?_⟩
              rw [hi, zipD_len, ha1.len, ha2.len]
              exact min_end
            · rw [zipD_len]
              exact Nat.le_trans (Nat.min_le_left _ _) hl1
  · rename_i d1 d2
    cases k3
    cases q2 with
    | cons h1 h2 =>
      cases h2 with
      | cons h2 h3 =>
        cases h3
        cases h1 with
        | tup hs1 hl1 ha1 =>
          cases h2 with
          | tup hs2 hl2 ha2 =>
            rename_i a xs b ys
            refine ⟨a, b, xs, ys, rfl, .inr ⟨same_sqT (hid_sub _ _) hs1, same_sqT (hid_sub _ _) hs2, k _ P2 H1 R2 (s1.trans s2) (fun P H st pt i => ⟨fun d hd => ?_, fun hi => ?_⟩) ?_⟩⟩
            · obtain ⟨x0, y0, g1, g2, rfl⟩ := (zipD_get _ _ _ _).mp hd
              obtain ⟨x, hx, qx⟩ := ha1.got g1
              obtain ⟨y, hy, qy⟩ := ha2.got g2
              have hs1H : SqT X.K H a xs := same_sqT (hid_sub _ _) (same_sqT st hs1)
              have hs2H : SqT X.K H b ys := same_sqT (hid_sub _ _) (same_sqT st hs2)
              refine ⟨⟨xs, ys, x, y, hs1H, hs2H, hx, hy⟩, fun z H' hz => ?_⟩
              obtain ⟨T, x', y', rfl, hT, rfl, u1, u2⟩ := hz
              have w1 := u1 xs hs1H
              rw [hx] at w1
              cases w1
              have w2 := u2 ys hs2H
              rw [hy] at w2
              cases w2
              exact ⟨upd_ext hT, dq_pair hT pt (qx.mono st) (qy.mono st)⟩
            · refine ⟨xs, ys, same_sqT (hid_sub _ _) (same_sqT st hs1), same_sqT (hid_sub _ _) (same_sqT st hs2), ?_⟩
              rw [hi, zipD_len, ha1.len, ha2.len]
              exact min_end
            · rw [zipD_len]
              exact Nat.le_trans (Nat.min_le_left _ _) hl1
  · cases k3

/-! ### targets -/
abbrev Gf := PyData → List Sl → Option (List Sl)
/-- the target's reading g does what fg says; ts: the slots it stores to -/
def GOk (K : PySem.W.Frag) (ts : List Nat) (g : TG) (fg : Gf) : Prop :=
  ∀ (c : Cn) (v : V) (d : PyData) (σ : St) (H : Hp) (P : Addr → Prop) (env env' : List Sl) (Q : St → Hp → Prop), Rel K c P σ H env → Dq K (hid P H) v d → fg d env = some env' →
    (∀ σ', Rel K c P σ' H env' → (∀ vs : List Nat, (∀ i ∈ ts, i ∈ vs) → wipe σ' vs = wipe σ vs) → Q σ' H) → g v σ H Q
theorem wipe_set {σ : St} {i : Nat} {x : Option V} : ∀ {vs : List Nat}, i ∈ vs → wipe (σ.set i x) vs = wipe σ vs
  | v :: vs, h => by
    by_cases hv : i ∈ vs
    · show (wipe (σ.set i x) vs).set v none = (wipe σ vs).set v none
      rw [wipe_set hv]
    · have hi : i = v := by
        rcases List.mem_cons.mp h with z | z
        · exact z
        · exact absurd z hv
      subst hi
      have out : ∀ {vs : List Nat}, i ∉ vs → wipe (σ.set i x) vs = (wipe σ vs).set i x := by
        intro vs
        induction vs with
        | nil => intro _; rfl
        | cons u us ih =>
          intro hu
          have h1 : i ≠ u := fun z => hu (by rw [z]; exact List.mem_cons_self)
          have h2 : i ∉ us := fun z => hu (List.mem_cons_of_mem _ z)
          show (wipe (σ.set i x) us).set u none = ((wipe σ us).set u none).set i x
          rw [ih h2, List.set_comm _ _ h1]
      show (wipe (σ.set i x) vs).set i none = (wipe σ vs).set i none
      rw [out hv, List.set_set]
def gSh (i : Nat) : Gf := fun d env => some (env.set i (.sh d))
theorem gok_name {K : PySem.W.Frag} {i : Nat} : GOk K [i] (gName i) (gSh i) := by
  intro c v d σ H P env env' Q R0 h e k
  cases e
  exact k _ (R0.setSh h) fun vs hv => wipe_set (hv i (by simp))
abbrev Gfs := List PyData → List Sl → Option (List Sl)
def GsOk (K : PySem.W.Frag) (ts : List Nat) (g : TGs) (fg : Gfs) : Prop :=
  ∀ (c : Cn) (vs : List V) (ds : List PyData) (σ : St) (H : Hp) (P : Addr → Prop) (env env' : List Sl) (Q : St → Hp → Prop), Rel K c P σ H env → DqAll K (hid P H) vs ds → fg ds env = some env' →
    (∀ σ', Rel K c P σ' H env' → (∀ vs : List Nat, (∀ i ∈ ts, i ∈ vs) → wipe σ' vs = wipe σ vs) → Q σ' H) → g vs σ H Q
def gsNil : Gfs
  | [], env => some env
  | _, _ => none
def gsCons (g : Gf) (r : Gfs) : Gfs
  | d :: ds, env => do
    let e1 ← g d env
    r ds e1
  | _, _ => none
theorem gsok_nil {K : PySem.W.Frag} : GsOk K [] gNil gsNil := by
  intro c vs ds σ H P env env' Q R0 h e k
  cases ds with
  | nil =>
    cases h
    cases e
    exact ⟨rfl, k σ R0 fun _ _ => rfl⟩
  | cons => cases e
theorem gsok_cons {K : PySem.W.Frag} {t1 t2 : List Nat} {g : TG} {fg : Gf} {r : TGs} {fr : Gfs} (h1 : GOk K t1 g fg) (h2 : GsOk K t2 r fr) : GsOk K (t1 ++ t2) (gCons g r) (gsCons fg fr) := by
  intro c vs ds σ H P env env' Q R0 h e k
  cases ds with
  | nil => cases e
  | cons d ds =>
    cases h with
    | cons q1 q2 =>
      simp only [gsCons, Option.bind_eq_bind, Option.bind_eq_some_iff] at e
      obtain ⟨e1, k1, k2⟩ := e
      refine ⟨_, _, rfl, h1 c _ d σ H P env e1 _ R0 q1 k1 fun σ1 R1 w1 => ?_⟩
      refine h2 c _ ds σ1 H P e1 env' _ R1 q2 k2 fun σ2 R2 w2 => ?_
      exact k σ2 R2 fun vs hv => (w2 vs fun i hi => hv i (List.mem_append_right _ hi)).trans (w1 vs fun i hi => hv i (List.mem_append_left _ hi))
/-- (a, b, ..) = a list or a tuple of that length -/
def gSeq (K : PySem.W.Frag) (n : Nat) (t : TGs) : TG := fun v σ H Q => ∃ a xs, v = .ref a ∧ (SqL K H a xs ∨ SqT K H a xs) ∧ xs.length = n ∧ t xs σ H Q
theorem pg_seq {es : List Expr} {k : Nat} {t : TGs} {n : Nat} (hc : X.calm = true) (h : PGs X es t)
    (hn : (assignEach es X.env).length = n := by rfl) (hst : (assignEach es X.env).findIdx? (·.1) = none := by rfl) : PG X (.Tuple es k pos) (gSeq X.K n t) := by
  refine ⟨fun pins s σ H v u Q I r hw => ?_⟩
  obtain ⟨a, xs, e1, hq, hl, hw⟩ := hw
  rcases hq with hq | hq
  · exact (pg_unl hc h hn hst).run pins s σ H v u Q I r ⟨a, xs, e1, hq, hl, hw⟩
  · exact (pg_tup hc h hn hst).run pins s σ H v u Q I r ⟨a, xs, e1, hq, hl, hw⟩
def gTupF (n : Nat) (r : Gfs) : Gf := fun d env => do
  let ds ← items d
  if ds.length = n then r ds env else none
theorem gok_tup {K : PySem.W.Frag} {ts : List Nat} {n : Nat} {g : TGs} {fg : Gfs} (h : GsOk K ts g fg) : GOk K ts (gSeq K n g) (gTupF n fg) := by
  intro c v d σ H P env env' Q R0 hd e k
  simp only [gTupF, Option.bind_eq_bind, Option.bind_eq_some_iff] at e
  obtain ⟨ds, k1, k2⟩ := e
  split at k2
  · rename_i hn
    cases d with
    | list es =>
      cases k1
      cases hd with
      | lst hs hl ha => exact ⟨_, _, rfl, .inl (same_sqL (hid_sub _ _) hs), ha.len.trans hn, h c _ _ σ H P env env' Q R0 ha k2 k⟩
    | tuple es =>
      cases k1
      cases hd with
      | tup hs hl ha => exact ⟨_, _, rfl, .inr (same_sqT (hid_sub _ _) hs), ha.len.trans hn, h c _ _ σ H P env env' Q R0 ha k2 k⟩
    | _ => cases k1
  · cases k2
end
end L2.Lp

set_option Elab.async false
set_option linter.all false
set_option maxRecDepth 100000
set_option maxHeartbeats 4000000
/-! Lp4: list comprehensions. -/
namespace L2.Lp
open PySem PySem.Spec L2
/-- one object more that others own: the list at D -/
def Cn.wth (c : Cn) (D : Addr) (ob : HO) : Cn := ⟨upd c.H0 D ob, fun a => c.B a ∨ a = D, c.I⟩
def del (H : Hp) (D : Addr) : Hp := fun a => if a = D then none else H a
theorem del_at {H : Hp} {D : Addr} : del H D D = none := by unfold del; rw [if_pos rfl]
theorem del_ne {H : Hp} {D a : Addr} (h : a ≠ D) : del H D a = H a := by unfold del; rw [if_neg h]
theorem upd_del {H : Hp} {D : Addr} {o : HO} (h : H D = some o) : upd (del H D) D o = H := by
  funext a
  by_cases ha : a = D
  · subst ha
    rw [upd_same, h]
  · rw [upd_ne ha, del_ne ha]
section
variable {K : PySem.W.Frag} {c : Cn} {P : Addr → Prop} {σ : St} {H : Hp} {env : List Sl} {D : Addr} {ob ob' : HO}
theorem hid_pop (hD : P D) : Same (hid P H) (hid (fun a => P a ∧ a ≠ D) (del H D)) := fun b o e => by
  obtain ⟨h1, h2⟩ := hid_some.mp e
  have ne : b ≠ D := fun z => h1 (z ▸ hD)
  exact hid_some.mpr ⟨fun z => h1 z.1, by rw [del_ne ne]; exact h2⟩
theorem hid_upd {o : HO} (hD : P D) : Same (hid P H) (hid P (upd H D o)) := fun b o e => by
  obtain ⟨h1, h2⟩ := hid_some.mp e
  have ne : b ≠ D := fun z => h1 (z ▸ hD)
  exact hid_some.mpr ⟨h1, by rw [upd_ne ne]; exact h2⟩
theorem hid_push {o : HO} (hD : H D = none) : Same (hid P H) (hid (fun a => P a ∨ a = D) (upd H D o)) := fun b o e => by
  obtain ⟨h1, h2⟩ := hid_some.mp e
  have ne : b ≠ D := ne_of_none h2 hD
  exact hid_some.mpr ⟨fun z => z.elim h1 ne, by rw [upd_ne ne]; exact h2⟩
theorem Rel.push (R0 : Rel K c P σ H env) (hD : H D = none) : Rel K (c.wth D ob) (fun a => P a ∨ a = D) σ (upd H D ob) env := by
  have nP : ¬ P D := R0.fresh hD
  have s : Same (hid P H) (hid (fun a => P a ∨ a = D) (upd H D ob)) := hid_push hD
  refine { len := R0.len, sh := fun i d e => ?_, mu := fun i b d e => ?_, dis := R0.dis, bp := fun a h => h.imp (R0.bp a) id, pt := fun a h => ?_, fr := fun a o h i => ?_, ip := fun a h => .inl (R0.ip a h), it := fun a h => ?_, bi := fun a h => ?_ }
  · obtain ⟨v, h1, h2⟩ := R0.sh i d e
    exact ⟨v, h1, h2.mono s⟩
  · obtain ⟨a, h1, h2, h3, h4, h5, h6⟩ := R0.mu i b d e
    have ne : a ≠ D := fun z => nP (z ▸ h2)
    refine ⟨a, h1, .inl h2, h3.move s (fun o q => by rw [upd_ne ne]; exact q), fun z => z.elim h4 ne, h5, fun q => ?_⟩
    show upd c.H0 D ob a = none
    rw [upd_ne ne]
    exact h6 q
  · by_cases ha : a = D
    · rw [ha, upd_same]
      exact fun z => nomatch z
    · rw [upd_ne ha]
      exact R0.pt a (h.resolve_right ha)
  · have h : upd c.H0 D ob a = some o := h
    by_cases ha : a = D
    · rw [ha] at h ⊢
      rw [upd_same] at h ⊢
      exact h
    · rw [upd_ne ha] at h ⊢
      exact R0.fr a o h i
  · show upd c.H0 D ob a ≠ none
    by_cases ha : a = D
    · rw [ha, upd_same]
      exact fun z => nomatch z
    · rw [upd_ne ha]
      exact R0.it a h
  · rcases h with h | h
    · exact R0.bi a h
    · subst h
      exact fun z => nP (R0.ip a z)
theorem Rel.at (R0 : Rel K (c.wth D ob) P σ H env) : H D = some ob ∧ P D := by
  have hB : (c.wth D ob).B D := .inr rfl
  exact ⟨R0.fr D _ upd_same (R0.bi D hB), R0.bp D hB⟩
theorem Rel.next (R0 : Rel K (c.wth D ob) P σ H env) : Rel K (c.wth D ob') P σ (upd H D ob') env := by
  obtain ⟨hD, pD⟩ := R0.at
  have s : Same (hid P H) (hid P (upd H D ob')) := hid_upd pD
  refine { len := R0.len, sh := fun i d e => ?_, mu := fun i b d e => ?_, dis := R0.dis, bp := R0.bp, pt := fun a h => ?_, fr := fun a o h i => ?_, ip := R0.ip, it := fun a h => ?_, bi := R0.bi }
  · obtain ⟨v, h1, h2⟩ := R0.sh i d e
    exact ⟨v, h1, h2.mono s⟩
  · obtain ⟨a, h1, h2, h3, h4, h5, h6⟩ := R0.mu i b d e
    have ne : a ≠ D := fun z => h4 (.inr z)
    refine ⟨a, h1, h2, h3.move s (fun o q => by rw [upd_ne ne]; exact q), h4, h5, fun q => ?_⟩
    have := h6 q
    have this : upd c.H0 D ob a = none := this
    show upd c.H0 D ob' a = none
    rw [upd_ne ne] at this ⊢
    exact this
  · by_cases ha : a = D
    · rw [ha, upd_same]
      exact fun z => nomatch z
    · rw [upd_ne ha]
      exact R0.pt a h
  · have h : upd c.H0 D ob' a = some o := h
    by_cases ha : a = D
    · rw [ha] at h ⊢
      rw [upd_same] at h ⊢
      exact h
    · rw [upd_ne ha] at h ⊢
      exact R0.fr a o (by show upd c.H0 D ob a = some o; rw [upd_ne ha]; exact h) i
  · show upd c.H0 D ob' a ≠ none
    by_cases ha : a = D
    · rw [ha, upd_same]
      exact fun z => nomatch z
    · rw [upd_ne ha]
      have := R0.it a h
      have this : upd c.H0 D ob a ≠ none := this
      rw [upd_ne ha] at this
      exact this
theorem Rel.pop (R0 : Rel K (c.wth D ob) P σ H env) (h0 : c.H0 D = none) (hb : ¬ c.B D) : Rel K c (fun a => P a ∧ a ≠ D) σ (del H D) env := by
  obtain ⟨hD, pD⟩ := R0.at
  have s : Same (hid P H) (hid (fun a => P a ∧ a ≠ D) (del H D)) := hid_pop pD
  have nI : ¬ c.I D := R0.bi D (.inr rfl)
  refine { len := R0.len, sh := fun i d e => ?_, mu := fun i b d e => ?_, dis := R0.dis, bp := fun a h => ⟨R0.bp a (.inl h), fun z => hb (z ▸ h)⟩, pt := fun a h => ?_, fr := fun a o h i => ?_, ip := fun a h => ⟨R0.ip a h, fun z => nI (z ▸ h)⟩, it := fun a h => ?_, bi := fun a h => R0.bi a (.inl h) }
  · obtain ⟨v, h1, h2⟩ := R0.sh i d e
    exact ⟨v, h1, h2.mono s⟩
  · obtain ⟨a, h1, h2, h3, h4, h5, h6⟩ := R0.mu i b d e
    have ne : a ≠ D := fun z => h4 (.inr z)
    refine ⟨a, h1, ⟨h2, ne⟩, h3.move s (fun o q => by rw [del_ne ne]; exact q), fun z => h4 (.inl z), h5, fun q => ?_⟩
    have := h6 q
    have this : upd c.H0 D ob a = none := this
    rw [upd_ne ne] at this
    exact this
  · rw [del_ne h.2]
    exact R0.pt a h.1
  · have ne : a ≠ D := ne_of_none h h0
    rw [del_ne ne]
    exact R0.fr a o (by show upd c.H0 D ob a = some o; rw [upd_ne ne]; exact h) i
  · have ne : a ≠ D := fun z => nI (z ▸ h)
    have := R0.it a h
    have this : upd c.H0 D ob a ≠ none := this
    rw [upd_ne ne] at this
    exact this
/-- a fresh address is unknown to the frame -/
theorem Rel.new0 (R0 : Rel K c P σ H env) (hD : H D = none) : c.H0 D = none ∧ ¬ c.B D := by
  refine ⟨?_, fun z => R0.fresh hD (R0.bp D z)⟩
  cases h : c.H0 D with
  | none => rfl
  | some o =>
    have := R0.fr D o h fun z => R0.fresh hD (R0.ip D z)
    rw [hD] at this
    cases this
end
/-! ### slots of a block's own names -/
def wipeE (env : List Sl) : List Nat → List Sl
  | [] => env
  | v :: vs => (wipeE env vs).set v .no
theorem wipeE_len (env : List Sl) : ∀ vs, (wipeE env vs).length = env.length
  | [] => rfl
  | v :: vs => by
    unfold wipeE
    rw [List.length_set, wipeE_len env vs]
theorem wipeE_get {env : List Sl} {i : Nat} {x : Sl} : ∀ {vs : List Nat}, (wipeE env vs)[i]? = some x → x = .no ∨ (env[i]? = some x ∧ i ∉ vs)
  | [], h => .inr ⟨h, by simp⟩
  | v :: vs, h => by
    unfold wipeE at h
    by_cases hv : v = i
    · subst hv
      rw [List.getElem?_set] at h
      simp only [if_true] at h
      split at h
      · cases h
        exact .inl rfl
      · cases h
    · rw [List.getElem?_set_ne hv] at h
      rcases wipeE_get h with z | ⟨z1, z2⟩
      · exact .inl z
      · exact .inr ⟨z1, by simp only [List.mem_cons, not_or]; exact ⟨fun e => hv e.symm, z2⟩⟩
def restE (e0 env : List Sl) : List Nat → List Sl
  | [] => env
  | v :: vs => (restE e0 env vs).set v (match e0[v]? with
    | some (.sh d) => .sh d
    | _ => .no)
theorem restE_len (e0 env : List Sl) : ∀ vs, (restE e0 env vs).length = env.length
  | [] => rfl
  | v :: vs => by
    unfold restE
    rw [List.length_set, restE_len e0 env vs]
theorem restE_get {e0 env : List Sl} {i : Nat} {x : Sl} : ∀ {vs : List Nat}, (restE e0 env vs)[i]? = some x → x = .no ∨ (∃ d, x = .sh d ∧ e0[i]? = some (Sl.sh d)) ∨ (env[i]? = some x ∧ i ∉ vs)
  | [], h => .inr (.inr ⟨h, by simp⟩)
  | v :: vs, h => by
    unfold restE at h
    by_cases hv : v = i
    · subst hv
      rw [List.getElem?_set] at h
      simp only [if_true] at h
      split at h
      · cases he : e0[v]? with
        | none => rw [he] at h; cases h; exact .inl rfl
        | some s =>
          rw [he] at h
          cases s with
          | sh d => cases h; exact .inr (.inl ⟨d, rfl, rfl⟩)
          | no => cases h; exact .inl rfl
          | mu b d => cases h; exact .inl rfl
      · cases h
    · rw [List.getElem?_set_ne hv] at h
      rcases restE_get h with z | z | ⟨z1, z2⟩
      · exact .inl z
      · exact .inr (.inl z)
      · exact .inr (.inr ⟨z1, by simp only [List.mem_cons, not_or]; exact ⟨fun e => hv e.symm, z2⟩⟩)
section
variable {K : PySem.W.Frag} {c c0 : Cn} {P P0 : Addr → Prop} {σ σ2 : St} {H H0 : Hp} {env e0 : List Sl} {vs : List Nat}
/-- into the block -/
theorem Rel.wipe_in (R0 : Rel K c P σ H (wipeE env vs)) : Rel K c P (wipe σ vs) H (wipeE env vs) := by
  refine R0.weak (by rw [R0.len, wipe_length]) fun i x e => ?_
  rcases wipeE_get e with z | ⟨z1, z2⟩
  · exact .inl z
  · exact .inr ⟨e, wipe_out z2⟩
/-- out of a turn -/
theorem Rel.wipe_out (R0 : Rel K c P σ2 H env) (hw : wipe σ2 vs = wipe σ vs) : Rel K c P σ H (wipeE env vs) := by
  have hl : σ2.length = σ.length := by
    have := congrArg List.length hw
    rwa [wipe_length, wipe_length] at this
  refine R0.weak (by rw [wipeE_len, R0.len, hl]) fun i x e => ?_
  rcases wipeE_get e with z | ⟨z1, z2⟩
  · exact .inl z
  · refine .inr ⟨z1, ?_⟩
    have h1 : (wipe σ2 vs)[i]? = σ2[i]? := L2.wipe_out z2
    have h2 : (wipe σ vs)[i]? = σ[i]? := L2.wipe_out z2
    rw [← h1, ← h2, hw]
theorem Rel.wiped (R0 : Rel K c P σ H env) : Rel K c P σ H (wipeE env vs) := R0.wipe_out rfl
/-- behind the block -/
theorem Rel.rest (R0 : Rel K c0 P0 σ H0 e0) (st : Stp P0 H0 P H) (R1 : Rel K c P σ H env) : Rel K c P σ H (restE e0 env vs) where
  len := by rw [restE_len, R1.len]
  sh i d e := by
    rcases restE_get e with z | ⟨d', z, z2⟩ | ⟨z1, _⟩
    · cases z
    · cases z
      obtain ⟨v, h1, h2⟩ := R0.sh i d z2
      exact ⟨v, h1, h2.mono st⟩
    · exact R1.sh i d z1
  mu i b d e := by
    rcases restE_get e with z | ⟨d', z, z2⟩ | ⟨z1, _⟩
    · cases z
    · cases z
    · exact R1.mu i b d z1
  dis i j b d e f q1 q2 q3 := by
    rcases restE_get q1 with z | ⟨d', z, z2⟩ | ⟨z1, _⟩
    · cases z
    · cases z
    · rcases restE_get q2 with y | ⟨d', y, y2⟩ | ⟨y1, _⟩
      · cases y
      · cases y
      · exact R1.dis i j _ _ _ _ z1 y1 q3
  bp := R1.bp
  pt := R1.pt
  fr := R1.fr
  ip := R1.ip
  it := R1.it
  bi := R1.bi
end
/-! ### [elt for target in iter if ..] -/
def loopLc (vs : List Nat) (fg : Gf) (ft : Tf) (fe : Sf) : List PyData → List Sl → Option (List PyData × List Sl)
  | [], env => some ([], env)
  | d :: ds, env => do
    let e1 ← fg d env
    let (b, e2) ← ft e1
    if b then do
      let (r, e3) ← fe e2
      let (x, e4) ← fz e3 r
      let (rest, e5) ← loopLc vs fg ft fe ds (wipeE e4 vs)
      pure (x :: rest, e5)
    else loopLc vs fg ft fe ds (wipeE e2 vs)
def fLc (vs : List Nat) (fi : Ff) (fg : Gf) (ft : Tf) (fe : Sf) : Ff := fun env => do
  let (ds, e1) ← fi env
  let (out, e2) ← loopLc vs fg ft fe ds (wipeE e1 vs)
  pure (out, restE e1 e2 vs)
def fYes : Tf := fun env => some (true, env)
section
variable {X : Cx} {c : Cn} {elt tg iter : Expr} {ifs : List Expr} {scope : Scope} {own : List (Str × Nat)} {pos : Pos} {fi : Ff} {g : TG} {fg : Gf} {ts : List Nat} {ft : Tf} {fe : Sf}
theorem lc_sem (hgf : GOk X.K ts g fg) (hts : ∀ i ∈ ts, i ∈ own.map (·.2)) {σ : St} {H : Hp} {Q : VK}
    (h : tF X.K c (fLc (own.map (·.2)) fi fg ft fe) σ H Q) {tt : TT} {te : TE} (htt : ∀ c' σ H Q, tT X.K c' ft σ H Q → tt σ H Q) (hte : ∀ c' σ H Q, tE X.K c' fe σ H Q → te σ H Q) :
    tLc (tI X.K c fi) g tt te (own.map (·.2)) σ H Q := by
  obtain ⟨P, env, out, env', R0, q, k⟩ := h
  simp only [fLc, Option.bind_eq_bind, Option.bind_eq_some_iff, Option.pure_def, Option.some.injEq] at q
  obtain ⟨⟨ds, e1⟩, k1, ⟨out2, e2⟩, k2, k3⟩ := q
  cases k3
  refine ⟨P, env, ds, e1, R0, k1, fun J P1 H1 R1 s1 hJ hlen D hD => ?_⟩
  obtain ⟨h00, hb0⟩ := R1.new0 hD
  generalize hvs : own.map (·.2) = vs at *
  refine ⟨fun i m H => m = ds.length - i ∧ i ≤ ds.length ∧ ∃ (P : Addr → Prop) (acc : List V) (accD rest : List PyData) (en : List Sl), Rel X.K (c.wth D (.lst acc)) P σ H (wipeE en vs) ∧ Stp P1 H1 P H ∧ DqAll X.K (hid P H) acc accD ∧ acc.length ≤ i ∧
    loopLc vs fg ft fe (ds.drop i) (wipeE en vs) = some (rest, e2) ∧ accD ++ rest = out2, ⟨ds.length, by simp, Nat.zero_le _, _, [], [], out2, e1, R1.wiped.push hD, ?_, .nil, Nat.le_refl _, by simpa using k2, rfl⟩, ?_⟩
  · exact hid_push hD
  rintro i m H2 ⟨rfl, hi, P2, acc, accD, rest, en, R2, st2, qa, la, hl, ha⟩
  obtain ⟨hDat, pD⟩ := R2.at
  have hit := hJ P2 H2 st2 R2.pt i
  by_cases hlt : i < ds.length
  · obtain ⟨hgo, hy⟩ := hit.1 _ (List.getElem?_eq_getElem hlt)
    refine .inr ⟨hgo, fun H' => ∃ (P : Addr → Prop) (acc : List V) (accD rest : List PyData) (en : List Sl), Rel X.K (c.wth D (.lst acc)) P σ H' (wipeE en vs) ∧ Stp P1 H1 P H' ∧ DqAll X.K (hid P H') acc accD ∧ acc.length ≤ i + 1 ∧
      loopLc vs fg ft fe (ds.drop (i + 1)) (wipeE en vs) = some (rest, e2) ∧ accD ++ rest = out2, fun H' n => ⟨ds.length - (i + 1), by omega, rfl, hlt, n⟩, fun x H3 hx => ?_⟩
    obtain ⟨s3, q3⟩ := hy x H3 hx
    have R3 := R2.same s3
    rw [List.drop_eq_getElem_cons hlt] at hl
    simp only [loopLc, Option.bind_eq_bind, Option.bind_eq_some_iff, Option.pure_def, Option.some.injEq] at hl
    obtain ⟨g1, l1, ⟨b, g2⟩, l2, l3⟩ := hl
    refine hgf (c.wth D (.lst acc)) x _ (wipe σ vs) H3 P2 _ g1 _ R3.wipe_in q3 l1 fun σ2 R4 w4 => ?_
    have hw : wipe σ2 vs = wipe (wipe σ vs) vs := w4 vs hts
    have hww : wipe (wipe σ vs) vs = wipe σ vs := by
      apply List.ext_getElem?
      intro j
      by_cases hj : j ∈ vs
      · have at_ : ∀ τ : St, ∀ us : List Nat, j ∈ us → (wipe τ us)[j]? = if j < τ.length then some none else none := by
          intro τ us
          induction us with
          | nil => intro hu; cases hu
          | cons u us ih =>
            intro hu
            show ((wipe τ us).set u none)[j]? = _
            by_cases hju : u = j
            · subst hju
              rw [List.getElem?_set]
              simp only [if_true, wipe_length]
            · rw [List.getElem?_set_ne hju]
              exact ih ((List.mem_cons.mp hu).resolve_left fun z => hju z.symm)
        rw [at_ _ _ hj, at_ _ _ hj, wipe_length]
      · rw [L2.wipe_out hj]
    rw [hww] at hw
    refine ⟨hw, htt (c.wth D (.lst acc)) σ2 H3 _ ⟨P2, g1, b, g2, R4, l2, fun P5 H5 R5 s5 => ?_⟩⟩
    have st5 : Stp P1 H1 P5 H5 := st2.trans ((hid_same s3 : Same (hid P2 H2) (hid P2 H3)).trans s5)
    have qa5 : DqAll X.K (hid P5 H5) acc accD := (qa.mono (hid_same s3)).mono s5
    cases b with
    | false =>
      simp only [Bool.false_eq_true, if_false] at l3
      refine iteF ?_
      exact ⟨P5, acc, accD, rest, g2, R5.wipe_out hw, st5, qa5, Nat.le_succ_of_le la, l3, ha⟩
    | true =>
      simp only [if_true] at l3
      refine iteT ?_
      simp only [Option.bind_eq_some_iff, Option.some.injEq] at l3
      obtain ⟨⟨r, g3⟩, l4, ⟨y, g4⟩, l5, ⟨rest2, g5⟩, l6, l7⟩ := l3
      cases l7
      refine hte (c.wth D (.lst acc)) σ2 H5 _ ⟨P5, g2, r, g3, R5, l4, fun v P6 H6 R6 s6 q6 => ?_⟩
      obtain ⟨P7, R7, s7, q7⟩ := R6.fz q6 l5
      obtain ⟨hDat7, pD7⟩ := R7.at
      refine ⟨acc, hDat7, Nat.lt_of_lt_of_le (Nat.lt_of_le_of_lt la hlt) hlen, P7, acc ++ [v], accD ++ [y], rest2, g4, (R7.wipe_out hw).next, ?_, ?_, by simp; omega, l6, by simpa using ha⟩
      · exact (st5.trans (s6.trans s7)).trans (hid_upd pD7)
      · exact (((qa5.mono s6).mono s7).app (.one q7)).mono (hid_upd pD7)
  · have e : i = ds.length := by omega
    subst e
    rw [List.drop_length] at hl
    cases hl
    rw [List.append_nil] at ha
    subst ha
    refine .inl ⟨hit.2 rfl, ?_⟩
    have hR := R2.pop h00 hb0
    have hk := k D acc (fun a => P2 a ∧ a ≠ D) (del H2 D) (R1.rest (st2.trans (hid_pop pD)) hR) ((s1.trans st2).trans (hid_pop pD)) (qa.mono (hid_pop pD)) (by rw [← qa.len]; exact Nat.le_trans la hlen) del_at
    rw [upd_del hDat] at hk
    exact hk
theorem sf_lc (hc : X.calm = true) (hN : X.N.Nodup) (hi : SI X c tg iter fi) (ok : BlkOk X.N X.env.scope scope own) (hgf : GOk X.K ts g fg) (hts : ∀ i ∈ ts, i ∈ own.map (·.2))
    (hg : ∀ (s : Shared) (H : Hp) (C : Addr) (cl : List (Str × Addr)) (fp : List Addr), PG (X.blk s H scope (compEnvC scope cl C X.env) fp) tg g)
    (ht : ∀ (c : Cn) (s : Shared) (H : Hp) (C : Addr) (cl : List (Str × Addr)) (fp : List Addr), PTs (X.blk s H scope (compEnvC scope cl C X.env) fp) ifs (tT X.K c ft))
    (he : ∀ (c : Cn) (s : Shared) (H : Hp) (C : Addr) (cl : List (Str × Addr)) (fp : List Addr), SE (X.blk s H scope (compEnvC scope cl C X.env) fp) c elt fe) (hs : ∀ x, foldedSetIterable iter X.env x = pure x := by intro _; rfl) :
    SF X c (.ListComp elt [⟨tg, iter, ifs, 0⟩] scope pos) (fLc (own.map (·.2)) fi fg ft fe) := by
  -- the element's and the tests' readings for all frames at once
  have he' : ∀ (s : Shared) (H : Hp) (C : Addr) (cl : List (Str × Addr)) (fp : List Addr), PE (X.blk s H scope (compEnvC scope cl C X.env) fp) elt (fun σ H Q => ∃ c', tE X.K c' fe σ H Q) := fun s H C cl fp =>
    ⟨fun pins s1 σ H1 Q I ⟨c', q⟩ => (he c' s H C cl fp).run pins s1 σ H1 Q I q⟩
  have ht' : ∀ (s : Shared) (H : Hp) (C : Addr) (cl : List (Str × Addr)) (fp : List Addr), PTs (X.blk s H scope (compEnvC scope cl C X.env) fp) ifs (fun σ H Q => ∃ c', tT X.K c' ft σ H Q) := fun s H C cl fp =>
    ⟨fun pins s1 σ H1 Q I ⟨c', q⟩ => (ht c' s H C cl fp).run pins s1 σ H1 Q I q⟩
  exact imp (pe_lc hc hN hi ok hg ht' he' hs) fun σ H Q h => lc_sem hgf hts h (fun c' σ H Q q => ⟨c', q⟩) (fun c' σ H Q q => ⟨c', q⟩)
end
end L2.Lp

set_option Elab.async false
set_option linter.all false
set_option maxRecDepth 100000
set_option maxHeartbeats 4000000
/-! Lp5: statements, defs and their calls. -/
namespace L2.Lp
open PySem PySem.Spec L2
inductive Out where
  | nx (env : List Sl)
  | rt (d : PyData) (env : List Sl)
  | bk (env : List Sl)
  | ct (env : List Sl)
  | ro (d : PyData) (env : List Sl)
abbrev Ss := List Sl → Option Out
def Wants (K : PySem.W.Frag) (c : Cn) (D : Ends) (P : Addr → Prop) (H : Hp) : Out → Prop
  | .nx env' => ∀ (σ' : St) (P' : Addr → Prop) (H' : Hp), Rel K c P' σ' H' env' → Stp P H P' H' → D.nx σ' H'
  | .rt d env' => ∀ (v : V) (σ' : St) (P' : Addr → Prop) (H' : Hp), Rel K c P' σ' H' env' → Stp P H P' H' → Dq K (hid P' H') v d → D.rt v H'
  | .bk env' => ∀ (σ' : St) (P' : Addr → Prop) (H' : Hp), Rel K c P' σ' H' env' → Stp P H P' H' → D.bk σ' H'
  | .ct env' => ∀ (σ' : St) (P' : Addr → Prop) (H' : Hp), Rel K c P' σ' H' env' → Stp P H P' H' → D.ct σ' H'
  | .ro d env' => ∀ (p : Addr) (ob : HO) (σ' : St) (P' : Addr → Prop) (H' : Hp), Rel K c P' σ' H' env' → Stp P H P' H' → H' p = none → OwnAt K (fun x => P' x ∨ x = p) (upd H' p ob) p d → D.rt (.ref p) (upd H' p ob)
def tS (K : PySem.W.Frag) (c : Cn) (f : Ss) : TS := fun D σ H => ∃ (P : Addr → Prop) (env : List Sl) (o : Out), Rel K c P σ H env ∧ f env = some o ∧ Wants K c D P H o
abbrev SS (X : Cx) (c : Cn) (st : Stmt) (f : Ss) : Prop := PS X st (tS X.K c f)
abbrev SSs (X : Cx) (c : Cn) (sts : List Stmt) (f : Ss) : Prop := PSs X sts (tS X.K c f)
section
variable {X : Cx} {c : Cn} {e a b : Expr} {es : List Expr} {f fa fb : Sf} {fs : List Sf} {pos : Pos} {st : Stmt} {sts : List Stmt} {K : PySem.W.Frag}
theorem impS {t t' : TS} (h : PS X st t) (k : ∀ D σ H, t' D σ H → t D σ H) : PS X st t' := ⟨fun pins s σ H D I q => h.run pins s σ H D I (k _ _ _ q)⟩
theorem impSs {t t' : TS} (h : PSs X sts t) (k : ∀ D σ H, t' D σ H → t D σ H) : PSs X sts t' := ⟨fun pins s σ H D I q => h.run pins s σ H D I (k _ _ _ q)⟩
theorem Wants.step {D : Ends} {P P' : Addr → Prop} {H H' : Hp} {o : Out} (h : Wants K c D P H o) (s : Stp P H P' H') : Wants K c D P' H' o := by
  cases o with
  | nx env => exact fun σ' P2 H2 R s2 => h σ' P2 H2 R (s.trans s2)
  | rt d env => exact fun v σ' P2 H2 R s2 => h v σ' P2 H2 R (s.trans s2)
  | bk env => exact fun σ' P2 H2 R s2 => h σ' P2 H2 R (s.trans s2)
  | ct env => exact fun σ' P2 H2 R s2 => h σ' P2 H2 R (s.trans s2)
  | ro d env => exact fun p ob σ' P2 H2 R s2 => h p ob σ' P2 H2 R (s.trans s2)
def fNil : Ss := fun env => some (.nx env)
def andThen (o : Out) (g : Ss) : Option Out := match o with
  | .nx env => g env
  | o => some o
def fThen (f g : Ss) : Ss := fun env => do
  let o ← f env
  andThen o g
theorem sss_nil : SSs X c [] fNil := by
  refine impSs pss_nil fun D σ H ⟨P, env, o, R0, e, k⟩ => ?_
  cases e
  exact k σ P H R0 (Stp.refl _ _)
theorem sss_one {f : Ss} (h : SS X c st f) : SSs X c [st] f := pss_one h
theorem sss_cons {f g : Ss} (h : SS X c st f) (h2 : SSs X c sts g) : SSs X c (st :: sts) (fThen f g) := by
  refine impSs (pss_cons h h2) fun D σ H ⟨P, env, o, R0, e, k⟩ => ?_
  simp only [fThen, Option.bind_eq_bind, Option.bind_eq_some_iff] at e
  obtain ⟨o1, k1, k2⟩ := e
  refine ⟨P, env, o1, R0, k1, ?_⟩
  cases o1 with
  | nx env1 => exact fun σ' P1 H1 R1 s1 => ⟨P1, env1, o, R1, k2, k.step s1⟩
  | rt d env1 =>
    cases k2
    exact k
  | bk env1 =>
    cases k2
    exact k
  | ct env1 =>
    cases k2
    exact k
  | ro d env1 =>
    cases k2
    exact k
/-! ### assignments -/
def fAsg (i : Nat) (f : Sf) : Ss := fun env => do
  let (r, e1) ← f env
  let (d, e2) ← fz e1 r
  pure (.nx (e2.set i (.sh d)))
theorem asg_core {i : Nat} {D : Ends} {σ : St} {H : Hp} (h : tS K c (fAsg i f) D σ H) : tAsg (tE K c f) (gName i) D σ H := by
  obtain ⟨P, env, o, R0, e, k⟩ := h
  simp only [fAsg, Option.bind_eq_bind, Option.bind_eq_some_iff, Option.pure_def, Option.some.injEq] at e
  obtain ⟨⟨r, e1⟩, k1, ⟨d, e2⟩, k2, k3⟩ := e
  subst k3
  refine ⟨P, env, r, e1, R0, k1, fun v P1 H1 R1 s1 q1 => ?_⟩
  obtain ⟨P2, R2, s2, q2⟩ := R1.fz q1 k2
  exact k _ P2 H1 (R2.setSh q2) (s1.trans s2)
theorem ss_set {i : Nat} {x : Str} {pos' : Pos} (hN : X.N.Nodup) (hi : X.N[i]? = some x) (hx : Loc X.env.scope x) (he : SE X c e f) (hs : swapsWith e (some (.Name x pos')) pos.line X.env = pure false := by rfl) (hf : X.fn x = true ∨ X.env.scope.names.lookup x = some .local := by first | exact .inl rfl | exact .inr rfl | assumption) :
    SS X c (.Assign [.Name x pos'] e pos) (fAsg i f) := impS (ps_set hN hi hx he hs hf) fun _ _ _ h => asg_core h
/-- a slot gets an object of its own -/
theorem Rel.ownO {P : Addr → Prop} {σ : St} {H : Hp} {env : List Sl} {p : Addr} {ob : HO} {d : PyData} {i : Nat} (R0 : Rel K c P σ H env) (hp : H p = none) (q : OwnAt K (fun a => P a ∨ a = p) (upd H p ob) p d) :
    Rel K c (fun a => P a ∨ a = p) (σ.set i (some (.ref p))) (upd H p ob) (env.set i (.mu false d)) := by
  have nP : ¬ P p := R0.fresh hp
  obtain ⟨h00, hb0⟩ := R0.new0 hp
  have s : Same (hid P H) (hid (fun a => P a ∨ a = p) (upd H p ob)) := hid_push hp
  have new : ∀ (j : Nat) (x : Sl), (env.set i (.mu false d))[j]? = some x → (i = j ∧ x = .mu false d ∧ i < σ.length) ∨ (i ≠ j ∧ env[j]? = some x) := fun j x e => by
    by_cases hij : i = j
    · subst hij
      rw [List.getElem?_set] at e
      simp only [if_true] at e
      split at e
      · rename_i hlt
        cases e
        exact .inl ⟨rfl, rfl, by rw [← R0.len]; exact hlt⟩
      · cases e
    · rw [List.getElem?_set_ne hij] at e
      exact .inr ⟨hij, e⟩
  have at_ : ∀ j, i ≠ j → (σ.set i (some (.ref p)))[j]? = σ[j]? := fun j n => List.getElem?_set_ne n
  refine { len := by simp [R0.len], sh := fun j d' e => ?_, mu := fun j b d' e => ?_, dis := fun j k b d' e f q1 q2 q3 => ?_, bp := fun a h => .inl (R0.bp a h), pt := fun a h => ?_, fr := fun a o h i => ?_, ip := fun a h => .inl (R0.ip a h), it := R0.it, bi := R0.bi }
  · rcases new j _ e with ⟨_, z, _⟩ | ⟨n, e⟩
    · cases z
    · obtain ⟨v, h1, h2⟩ := R0.sh j d' e
      exact ⟨v, by rw [at_ j n]; exact h1, h2.mono s⟩
  · rcases new j _ e with ⟨rfl, z, hlt⟩ | ⟨n, e⟩
    · cases z
      exact ⟨p, List.getElem?_set_self hlt, .inr rfl, q, hb0, fun z => (nomatch z), fun _ => h00⟩
    · obtain ⟨a, h1, h2, h3, h4, h5, h6⟩ := R0.mu j b d' e
      have ne : a ≠ p := fun z => nP (z ▸ h2)
      exact ⟨a, by rw [at_ j n]; exact h1, .inl h2, h3.move s (fun o q => by rw [upd_ne ne]; exact q), h4, h5, h6⟩
  · rcases new j _ q1 with ⟨rfl, z, hlt⟩ | ⟨n, e1⟩
    · rcases new k _ q2 with ⟨rfl, _, _⟩ | ⟨n2, e2⟩
      · rfl
      · obtain ⟨a, h1, h2, _⟩ := R0.mu k _ _ e2
        rw [List.getElem?_set_self hlt, at_ k n2, h1] at q3
        cases q3
        exact absurd h2 nP
    · rcases new k _ q2 with ⟨rfl, z, hlt⟩ | ⟨n2, e2⟩
      · obtain ⟨a, h1, h2, _⟩ := R0.mu j _ _ e1
        rw [List.getElem?_set_self hlt, at_ j n, h1] at q3
        cases q3
        exact absurd h2 nP
      · rw [at_ j n, at_ k n2] at q3
        exact R0.dis j k _ _ _ _ e1 e2 q3
  · by_cases ha : a = p
    · rw [ha, upd_same]
      exact fun z => nomatch z
    · rw [upd_ne ha]
      exact R0.pt a (h.resolve_right ha)
  · have ne : a ≠ p := ne_of_none h h00
    rw [upd_ne ne]
    exact R0.fr a o h i
theorem Rel.own {P : Addr → Prop} {σ : St} {H : Hp} {env : List Sl} {p : Addr} {xs : List V} {ds : List PyData} {i : Nat} (R0 : Rel K c P σ H env) (q : DqAll K (hid P H) xs ds) (hl : ds.length ≤ sizeLine) (hp : H p = none) :
    Rel K c (fun a => P a ∨ a = p) (σ.set i (some (.ref p))) (upd H p (.lst xs)) (env.set i (.mu false (.list ds))) := R0.ownO hp ⟨hl, xs, upd_same, q.mono (hid_push hp)⟩
def fOwn (i : Nat) (f : Ff) : Ss := fun env => do
  let (ds, e1) ← f env
  pure (.nx (e1.set i (.mu false (.list ds))))
theorem own_core {i : Nat} {f : Ff} {D : Ends} {σ : St} {H : Hp} (h : tS K c (fOwn i f) D σ H) : tAsg (tF K c f) (gName i) D σ H := by
  obtain ⟨P, env, o, R0, e, k⟩ := h
  simp only [fOwn, Option.bind_eq_bind, Option.bind_eq_some_iff, Option.pure_def, Option.some.injEq] at e
  obtain ⟨⟨ds, e1⟩, k1, k3⟩ := e
  subst k3
  refine ⟨P, env, ds, e1, R0, k1, fun p xs P1 H1 R1 s1 q1 hl hp => ?_⟩
  exact k _ _ _ (R1.own q1 hl hp) (s1.trans (hid_push hp))
theorem ss_own {i : Nat} {x : Str} {f : Ff} {pos' : Pos} (hN : X.N.Nodup) (hi : X.N[i]? = some x) (hx : Loc X.env.scope x) (he : SF X c e f) (hs : swapsWith e (some (.Name x pos')) pos.line X.env = pure false := by rfl) (hf : X.fn x = true ∨ X.env.scope.names.lookup x = some .local := by first | exact .inl rfl | exact .inr rfl | assumption) :
    SS X c (.Assign [.Name x pos'] e pos) (fOwn i f) := impS (ps_set hN hi hx he hs hf) fun _ _ _ h => own_core h
/-- the same as a datum that nobody changes -/
theorem tF_tE {f : Ff} {σ : St} {H : Hp} {Q : VK} (h : tE K c (fL f) σ H Q) : tF K c f σ H Q := by
  obtain ⟨P, env, r, env', R0, q, k⟩ := h
  simp only [fL, Option.bind_eq_bind, Option.bind_eq_some_iff, Option.pure_def, Option.some.injEq] at q
  obtain ⟨⟨ds, e1⟩, k1, k2⟩ := q
  cases k2
  refine ⟨P, env, ds, e1, R0, k1, fun p xs P1 H1 R1 s1 q1 l1 hp => ?_⟩
  have s3 := upd_ext (o := .lst xs) hp
  refine k _ P1 _ (R1.same s3) (s1.trans (hid_same s3)) ?_
  exact .lst (SqL.of (hid_some.mpr ⟨R1.fresh hp, upd_same⟩)) l1 (q1.mono (hid_same s3))
/-- name = [..] on one line, the name a local -/
theorem ss_lcOwn {i : Nat} {y : Str} {py spos : Pos} {elt tg iter : Expr} {ifs : List Expr} {scope : Scope} {own : List (Str × Nat)} {fi : Ff} {g : TG} {fg : Gf} {ts : List Nat} {ft : Tf} {fe : Sf}
    (hc : X.calm = true) (hN : X.N.Nodup) (hy : X.N[i]? = some y) (hyl : X.env.scope.names.lookup y = some .local)
    (hsw : swapsWith (.ListComp elt [⟨tg, iter, ifs, 0⟩] scope pos) (some (.Name y py)) spos.line X.env = pure true)
    (hi : SI X c tg iter fi) (ok : BlkOk X.N X.env.scope scope own) (hgf : GOk X.K ts g fg) (hts : ∀ i ∈ ts, i ∈ own.map (·.2))
    (hg : ∀ (s : Shared) (H : Hp) (C : Addr) (cl : List (Str × Addr)) (fp : List Addr), PG (X.blk s H scope (compEnvC scope cl C X.env) fp) tg g)
    (ht : ∀ (c : Cn) (s : Shared) (H : Hp) (C : Addr) (cl : List (Str × Addr)) (fp : List Addr), PTs (X.blk s H scope (compEnvC scope cl C X.env) fp) ifs (tT X.K c ft))
    (he : ∀ (c : Cn) (s : Shared) (H : Hp) (C : Addr) (cl : List (Str × Addr)) (fp : List Addr), SE (X.blk s H scope (compEnvC scope cl C X.env) fp) c elt fe) (hs : ∀ x, foldedSetIterable iter X.env x = pure x := by intro _; rfl) :
    SS X c (.Assign [.Name y py] (.ListComp elt [⟨tg, iter, ifs, 0⟩] scope pos) spos) (fOwn i (fLc (own.map (·.2)) fi fg ft fe)) := by
  have he' : ∀ (s : Shared) (H : Hp) (C : Addr) (cl : List (Str × Addr)) (fp : List Addr), PE (X.blk s H scope (compEnvC scope cl C X.env) fp) elt (fun σ H Q => ∃ c', tE X.K c' fe σ H Q) := fun s H C cl fp =>
    ⟨fun pins s1 σ H1 Q I ⟨c', q⟩ => (he c' s H C cl fp).run pins s1 σ H1 Q I q⟩
  have ht' : ∀ (s : Shared) (H : Hp) (C : Addr) (cl : List (Str × Addr)) (fp : List Addr), PTs (X.blk s H scope (compEnvC scope cl C X.env) fp) ifs (fun σ H Q => ∃ c', tT X.K c' ft σ H Q) := fun s H C cl fp =>
    ⟨fun pins s1 σ H1 Q I ⟨c', q⟩ => (ht c' s H C cl fp).run pins s1 σ H1 Q I q⟩
  exact impS (ps_setLc hc hN hy hyl hsw hi ok hg ht' he' hs) fun D σ H h => lc_sem hgf hts (own_core h) (fun c' σ H Q q => ⟨c', q⟩) (fun c' σ H Q q => ⟨c', q⟩)
theorem shOfOwn {i : Nat} {f : Ff} {D : Ends} {σ : St} {H : Hp} (h : tS K c (fAsg i (fL f)) D σ H) : tAsg (tF K c f) (gName i) D σ H := tF_tE (asg_core h)
theorem ss_lcSet {i : Nat} {y : Str} {py spos : Pos} {elt tg iter : Expr} {ifs : List Expr} {scope : Scope} {own : List (Str × Nat)} {fi : Ff} {g : TG} {fg : Gf} {ts : List Nat} {ft : Tf} {fe : Sf}
    (hc : X.calm = true) (hN : X.N.Nodup) (hy : X.N[i]? = some y) (hyl : X.env.scope.names.lookup y = some .local)
    (hsw : swapsWith (.ListComp elt [⟨tg, iter, ifs, 0⟩] scope pos) (some (.Name y py)) spos.line X.env = pure true)
    (hi : SI X c tg iter fi) (ok : BlkOk X.N X.env.scope scope own) (hgf : GOk X.K ts g fg) (hts : ∀ i ∈ ts, i ∈ own.map (·.2))
    (hg : ∀ (s : Shared) (H : Hp) (C : Addr) (cl : List (Str × Addr)) (fp : List Addr), PG (X.blk s H scope (compEnvC scope cl C X.env) fp) tg g)
    (ht : ∀ (c : Cn) (s : Shared) (H : Hp) (C : Addr) (cl : List (Str × Addr)) (fp : List Addr), PTs (X.blk s H scope (compEnvC scope cl C X.env) fp) ifs (tT X.K c ft))
    (he : ∀ (c : Cn) (s : Shared) (H : Hp) (C : Addr) (cl : List (Str × Addr)) (fp : List Addr), SE (X.blk s H scope (compEnvC scope cl C X.env) fp) c elt fe) (hs : ∀ x, foldedSetIterable iter X.env x = pure x := by intro _; rfl) :
    SS X c (.Assign [.Name y py] (.ListComp elt [⟨tg, iter, ifs, 0⟩] scope pos) spos) (fAsg i (fL (fLc (own.map (·.2)) fi fg ft fe))) := by
  have he' : ∀ (s : Shared) (H : Hp) (C : Addr) (cl : List (Str × Addr)) (fp : List Addr), PE (X.blk s H scope (compEnvC scope cl C X.env) fp) elt (fun σ H Q => ∃ c', tE X.K c' fe σ H Q) := fun s H C cl fp =>
    ⟨fun pins s1 σ H1 Q I ⟨c', q⟩ => (he c' s H C cl fp).run pins s1 σ H1 Q I q⟩
  have ht' : ∀ (s : Shared) (H : Hp) (C : Addr) (cl : List (Str × Addr)) (fp : List Addr), PTs (X.blk s H scope (compEnvC scope cl C X.env) fp) ifs (fun σ H Q => ∃ c', tT X.K c' ft σ H Q) := fun s H C cl fp =>
    ⟨fun pins s1 σ H1 Q I ⟨c', q⟩ => (ht c' s H C cl fp).run pins s1 σ H1 Q I q⟩
  exact impS (ps_setLc hc hN hy hyl hsw hi ok hg ht' he' hs) fun D σ H h => lc_sem hgf hts (shOfOwn h) (fun c' σ H Q q => ⟨c', q⟩) (fun c' σ H Q q => ⟨c', q⟩)
/-- target = value -/
def fAsgT (fg : Gf) (f : Sf) : Ss := fun env => do
  let (r, e1) ← f env
  let (d, e2) ← fz e1 r
  let e3 ← fg d e2
  pure (.nx e3)
theorem ss_asg {tg : Expr} {g : TG} {fg : Gf} {ts : List Nat} (he : SE X c e f) (hg : PG X tg g) (hgf : GOk X.K ts g fg) (hs : swapsWithSole [tg] e pos.line X.env = pure false := by rfl) (hw : swappedStores [tg] e X.env = pure none := by rfl)
    (h1 : (assignEach [tg] X.env).map (·.2) = [assign tg X.env] := by rfl) : SS X c (.Assign [tg] e pos) (fAsgT fg f) := by
  refine impS (ps_asg he hg hs hw h1) fun D σ H h => ?_
  obtain ⟨P, env, o, R0, e, k⟩ := h
  simp only [fAsgT, Option.bind_eq_bind, Option.bind_eq_some_iff, Option.pure_def, Option.some.injEq] at e
  obtain ⟨⟨r, e1⟩, k1, ⟨d, e2⟩, k2, e3, k3, k4⟩ := e
  subst k4
  refine ⟨P, env, r, e1, R0, k1, fun v P1 H1 R1 s1 q1 => ?_⟩
  obtain ⟨P2, R2, s2, q2⟩ := R1.fz q1 k2
  exact hgf c v d σ H1 P2 e2 e3 _ R2 q2 k3 fun σ' R3 _ => k _ P2 H1 R3 (s1.trans s2)
/-! ### return, expressions as statements, if, for, while -/
def fRet (f : Sf) : Ss := fun env => do
  let (r, e1) ← f env
  let (d, e2) ← fz e1 r
  pure (.rt d e2)
theorem ss_ret (he : SE X c e f) : SS X c (.Return (some e) pos) (fRet f) := by
  refine impS (ps_ret he) fun D σ H ⟨P, env, o, R0, q, k⟩ => ?_
  simp only [fRet, Option.bind_eq_bind, Option.bind_eq_some_iff, Option.pure_def, Option.some.injEq] at q
  obtain ⟨⟨r, e1⟩, k1, ⟨d, e2⟩, k2, k3⟩ := q
  subst k3
  refine ⟨P, env, r, e1, R0, k1, fun v P1 H1 R1 s1 q1 => ?_⟩
  obtain ⟨P2, R2, s2, q2⟩ := R1.fz q1 k2
  exact k v σ P2 H1 R2 (s1.trans s2) q2
/-- a new list is handed back -/
def fRetF (f : Ff) : Ss := fun env => do
  let (ds, e1) ← f env
  pure (.ro (.list ds) e1)
theorem ss_retF {f : Ff} (he : SF X c e f) : SS X c (.Return (some e) pos) (fRetF f) := by
  refine impS (ps_ret he) fun D σ H ⟨P, env, o, R0, q, k⟩ => ?_
  simp only [fRetF, Option.bind_eq_bind, Option.bind_eq_some_iff, Option.pure_def, Option.some.injEq] at q
  obtain ⟨⟨ds, e1⟩, k1, k2⟩ := q
  subst k2
  refine ⟨P, env, ds, e1, R0, k1, fun p xs P1 H1 R1 s1 q1 l1 hp => ?_⟩
  exact k p _ σ P1 H1 R1 s1 hp ⟨l1, xs, upd_same, q1.mono (hid_push hp)⟩
def fRetN : Ss := fun env => some (.rt .none env)
theorem ss_retN : SS X c (.Return none pos) fRetN := by
  refine impS ps_retN fun D σ H ⟨P, env, o, R0, q, k⟩ => ?_
  cases q
  exact k .non σ P H R0 (Stp.refl _ _) .non
def fBk : Ss := fun env => some (.bk env)
def fCt : Ss := fun env => some (.ct env)
theorem ss_break : SS X c (.Break pos) fBk := by
  refine impS ps_break fun D σ H ⟨P, env, o, R0, q, k⟩ => ?_
  cases q
  exact k σ P H R0 (Stp.refl _ _)
theorem ss_continue : SS X c (.Continue pos) fCt := by
  refine impS ps_continue fun D σ H ⟨P, env, o, R0, q, k⟩ => ?_
  cases q
  exact k σ P H R0 (Stp.refl _ _)
def fDrop (f : Sf) : Ss := fun env => do
  let (_, e1) ← f env
  pure (.nx e1)
theorem ss_expr (he : SE X c e f) (hs : swapsWith e none pos.line X.env = pure false := by rfl) : SS X c (.Expr e pos) (fDrop f) := by
  refine impS (ps_expr he hs) fun D σ H ⟨P, env, o, R0, q, k⟩ => ?_
  simp only [fDrop, Option.bind_eq_bind, Option.bind_eq_some_iff, Option.pure_def, Option.some.injEq] at q
  obtain ⟨⟨r, e1⟩, k1, k2⟩ := q
  subst k2
  exact ⟨P, env, r, e1, R0, k1, fun v P1 H1 R1 s1 q1 => k σ P1 H1 R1 s1⟩
def fIfS (t : Tf) (fa fb : Ss) : Ss := fun env => do
  let (b, e1) ← t env
  if b then fa e1 else fb e1
theorem ss_if {t : Expr} {ft : Tf} {sa sb : List Stmt} {fa fb : Ss} (hc : ST X c t ft) (ha : SSs X c sa fa) (hb : SSs X c sb fb) : SS X c (.If t sa sb pos) (fIfS ft fa fb) := by
  refine impS (ps_if hc ha hb) fun D σ H ⟨P, env, o, R0, q, k⟩ => ?_
  simp only [fIfS, Option.bind_eq_bind, Option.bind_eq_some_iff] at q
  obtain ⟨⟨b, e1⟩, k1, k2⟩ := q
  refine ⟨P, env, b, e1, R0, k1, fun P1 H1 R1 s1 => ?_⟩
  cases b with
  | true => exact iteT ⟨P1, e1, o, R1, k2, k.step s1⟩
  | false => exact iteF ⟨P1, e1, o, R1, k2, k.step s1⟩
def again (o : Out) (k : List Sl → Option Out) : Option Out := match o with
  | .nx env => k env
  | .ct env => k env
  | .bk env => some (.nx env)
  | .rt d env => some (.rt d env)
  | .ro d env => some (.ro d env)
def loopF (fg : Gf) (fb : Ss) : List PyData → List Sl → Option Out
  | [], env => some (.nx env)
  | d :: ds, env => do
    let e1 ← fg d env
    let o ← fb e1
    again o (loopF fg fb ds)
def fFor (fi : Ff) (fg : Gf) (fb : Ss) : Ss := fun env => do
  let (ds, e1) ← fi env
  loopF fg fb ds e1
theorem ss_for {tg iter : Expr} {body : List Stmt} {fi : Ff} {g : TG} {fg : Gf} {ts : List Nat} {fb : Ss} (hp : PassesOwn (model X.prog X.w) X.A X.env X.xe) (hc : X.calm = true) (hi : SI X c tg iter fi) (hg : PG X tg g) (hgf : GOk X.K ts g fg) (hb : SSs X c body fb)
    (hs : ∀ x, foldedSetIterable iter X.env x = pure x := by intro _; rfl) : SS X c (.For tg iter body [] pos) (fFor fi fg fb) := by
  refine impS (ps_for hp hc hi hg hb hs) fun D σ H ⟨P, env, o, R0, q, k⟩ => ?_
  simp only [fFor, Option.bind_eq_bind, Option.bind_eq_some_iff] at q
  obtain ⟨⟨ds, e1⟩, k1, k2⟩ := q
  refine ⟨P, env, ds, e1, R0, k1, fun J P1 H1 R1 s1 hJ hlen => ?_⟩
  refine ⟨fun i m σ H => m = ds.length - i ∧ i ≤ ds.length ∧ ∃ (P : Addr → Prop) (en : List Sl), Rel X.K c P σ H en ∧ Stp P1 H1 P H ∧ loopF fg fb (ds.drop i) en = some o, ⟨ds.length, by simp, Nat.zero_le _, P1, e1, R1, Stp.refl _ _, by simpa using k2⟩, ?_⟩
  rintro i m σ2 H2 ⟨rfl, hi, P2, en, R2, st2, hl⟩
  have hit := hJ P2 H2 st2 R2.pt i
  have k' : Wants X.K c D P2 H2 o := k.step (s1.trans st2)
  by_cases hlt : i < ds.length
  · obtain ⟨hgo, hy⟩ := hit.1 _ (List.getElem?_eq_getElem hlt)
    refine .inr ⟨hgo, fun σ' H' => ∃ (P : Addr → Prop) (en : List Sl), Rel X.K c P σ' H' en ∧ Stp P1 H1 P H' ∧ loopF fg fb (ds.drop (i + 1)) en = some o, fun σ' H' n => ⟨ds.length - (i + 1), by omega, rfl, hlt, n⟩, fun x H3 hx => ?_⟩
    obtain ⟨s3, q3⟩ := hy x H3 hx
    have R3 := R2.same s3
    rw [List.drop_eq_getElem_cons hlt] at hl
    simp only [loopF, Option.bind_eq_bind, Option.bind_eq_some_iff] at hl
    obtain ⟨g1, l1, o1, l2, l3⟩ := hl
    refine hgf c x _ σ2 H3 P2 en g1 _ R3 q3 l1 fun σ3 R4 _ => ⟨P2, g1, o1, R4, l2, ?_⟩
    have st3 : Stp P1 H1 P2 H3 := st2.trans (hid_same s3)
    have k3 : Wants X.K c D P2 H3 o := k'.step (hid_same s3)
    cases o1 with
    | nx env1 => exact fun σ' P' H' R' s' => ⟨P', env1, R', st3.trans s', l3⟩
    | ct env1 => exact fun σ' P' H' R' s' => ⟨P', env1, R', st3.trans s', l3⟩
    | bk env1 =>
      cases l3
      exact k3
    | rt d env1 =>
      cases l3
      exact k3
    | ro d env1 =>
      cases l3
      exact k3
  · have e : i = ds.length := by omega
    subst e
    rw [List.drop_length] at hl
    cases hl
    exact .inl ⟨hit.2 rfl, k' σ2 P2 H2 R2 (Stp.refl _ _)⟩
/-- while, at most n turns -/
def loopW (ft : Tf) (fb : Ss) : Nat → List Sl → Option Out
  | 0, _ => none
  | n + 1, env => do
    let (b, e1) ← ft env
    if b then do
      let o ← fb e1
      again o (loopW ft fb n)
    else some (.nx e1)
theorem ss_while {t : Expr} {ft : Tf} {body : List Stmt} {fb : Ss} (n : Nat) (hp : PassesOwn (model X.prog X.w) X.A X.env X.xe) (hc : ST X c t ft) (hb : SSs X c body fb) : SS X c (.While t body [] pos) (loopW ft fb n) := by
  refine impS (ps_while hp hc hb) fun D σ HH ⟨P, env, o, R0, q, k⟩ => ?_
  refine ⟨fun m σ H => ∃ (P' : Addr → Prop) (en : List Sl), Rel X.K c P' σ H en ∧ Stp P HH P' H ∧ loopW ft fb m en = some o, ⟨n, P, env, R0, Stp.refl _ _, q⟩, ?_⟩
  rintro m σ2 H2 ⟨P2, en, R2, st2, hl⟩
  cases m with
  | zero => cases hl
  | succ m =>
    simp only [loopW, Option.bind_eq_bind, Option.bind_eq_some_iff] at hl
    obtain ⟨⟨b, e1⟩, k1, k2⟩ := hl
    refine ⟨P2, en, b, e1, R2, k1, fun P3 H3 R3 s3 => ?_⟩
    have k3 : Wants X.K c D P3 H3 o := k.step (st2.trans s3)
    cases b with
    | false =>
      simp only [Bool.false_eq_true, if_false, Option.some.injEq] at k2
      subst k2
      exact iteF (k3 σ2 P3 H3 R3 (Stp.refl _ _))
    | true =>
      simp only [if_true, Option.bind_eq_some_iff] at k2
      obtain ⟨o1, l2, l3⟩ := k2
      refine iteT ⟨fun σ' H' => ∃ (P' : Addr → Prop) (en : List Sl), Rel X.K c P' σ' H' en ∧ Stp P HH P' H' ∧ loopW ft fb m en = some o, fun σ' H' n => ⟨m, Nat.lt_succ_self m, n⟩, P3, e1, o1, R3, l2, ?_⟩
      cases o1 with
      | nx env1 => exact fun σ' P' H' R' s' => ⟨P', env1, R', (st2.trans s3).trans s', l3⟩
      | ct env1 => exact fun σ' P' H' R' s' => ⟨P', env1, R', (st2.trans s3).trans s', l3⟩
      | bk env1 =>
        cases l3
        exact k3
      | rt d env1 =>
        cases l3
        exact k3
      | ro d env1 =>
        cases l3
        exact k3
end
end L2.Lp

set_option Elab.async false
set_option linter.all false
set_option maxRecDepth 100000
set_option maxHeartbeats 4000000
/-! Lp6: defs as functions of data, their calls. -/
namespace L2.Lp
open PySem PySem.Spec L2
/-- a def's meaning: what it hands back, and what it leaves in the object (at most one) that its caller lent it -/
abbrev Fn := List PyData → Option (PyData × List PyData)
inductive ArgsOk (K : PySem.W.Frag) (P : Addr → Prop) (H : Hp) : List Bool → List V → List PyData → List Addr → Prop
  | nil : ArgsOk K P H [] [] [] []
  | sh {v : V} {d : PyData} {m : List Bool} {vs : List V} {ds : List PyData} {as : List Addr} : Dq K (hid P H) v d → ArgsOk K P H m vs ds as → ArgsOk K P H (false :: m) (v :: vs) (d :: ds) as
  | io {a : Addr} {d : PyData} {m : List Bool} {vs : List V} {ds : List PyData} : P a → OwnAt K P H a d → ArgsOk K P H m vs ds [] → ArgsOk K P H (true :: m) (.ref a :: vs) (d :: ds) [a]
def OutsOk (K : PySem.W.Frag) (P : Addr → Prop) (H : Hp) : List Addr → List PyData → Prop
  | [], [] => True
  | [a], [d] => OwnAt K P H a d
  | _, _ => False
def spD (K : PySem.W.Frag) (mask : List Bool) (F : Fn) : Sp := fun vs H Q _ => ∃ (P : Addr → Prop) (ds : List PyData) (as : List Addr) (r : PyData) (outs : List PyData),
  ArgsOk K P H mask vs ds as ∧ (∀ a, P a → H a ≠ none) ∧ F ds = some (r, outs) ∧
  ∀ (v : V) (H' : Hp), (∀ a o, H a = some o → a ∉ as → H' a = some o) → Dq K (hid P H') v r → OutsOk K P H' as outs → Q v H'
def argEnv : List Bool → List PyData → List Sl
  | true :: m, d :: ds => .mu true d :: argEnv m ds
  | false :: m, d :: ds => .sh d :: argEnv m ds
  | _, _ => []
def outsOf : List Bool → List Sl → Option (List PyData)
  | [], _ => some []
  | false :: m, _ :: env => outsOf m env
  | true :: m, .mu true d :: env => do
    let r ← outsOf m env
    pure (d :: r)
  | _, _ => none
def ended (mask : List Bool) : Out → Option (PyData × List PyData)
  | .rt d env => do
    let o ← outsOf mask env
    pure (d, o)
  | .nx env => do
    let o ← outsOf mask env
    pure (.none, o)
  | .ro d env => do
    let o ← outsOf mask env
    pure (d, o)
  | _ => none
/-- a new object handed back, and nothing else will do -/
def endedO (mask : List Bool) : Out → Option (PyData × List PyData)
  | .ro d env => do
    let o ← outsOf mask env
    pure (d, o)
  | _ => none
def runO (mask : List Bool) (n : Nat) (fb : Ss) : Fn := fun ds => do
  let o ← fb (argEnv mask ds ++ List.replicate (n - mask.length) .no)
  endedO mask o
/-- the result is an object that nobody else knows -/
def spO (K : PySem.W.Frag) (mask : List Bool) (F : Fn) : Sp := fun vs H Q _ => ∃ (P : Addr → Prop) (ds : List PyData) (as : List Addr) (r : PyData) (outs : List PyData),
  ArgsOk K P H mask vs ds as ∧ (∀ a, P a → H a ≠ none) ∧ F ds = some (r, outs) ∧
  ∀ (p : Addr) (H' : Hp), (∀ a o, H a = some o → a ∉ as → H' a = some o) → H p = none → OwnAt K (fun x => P x ∨ x = p) H' p r → OutsOk K (fun x => P x ∨ x = p) H' as outs → Q (.ref p) H'
def runD (mask : List Bool) (n : Nat) (fb : Ss) : Fn := fun ds => do
  let o ← fb (argEnv mask ds ++ List.replicate (n - mask.length) .no)
  ended mask o
section
variable {K : PySem.W.Frag} {P : Addr → Prop} {H : Hp}
theorem ArgsOk.lens {mask : List Bool} {vs : List V} {ds : List PyData} {as : List Addr} (h : ArgsOk K P H mask vs ds as) : vs.length = mask.length ∧ ds.length = mask.length ∧ as.length = mask.count true := by
  induction h with
  | nil => exact ⟨rfl, rfl, rfl⟩
  | sh _ _ ih => exact ⟨by simp [ih.1], by simp [ih.2.1], by simp [ih.2.2]⟩
  | io _ _ _ ih => exact ⟨by simp [ih.1], by simp [ih.2.1], by simpa using ih.2.2.symm⟩
theorem ArgsOk.own {mask : List Bool} {vs : List V} {ds : List PyData} {as : List Addr} (h : ArgsOk K P H mask vs ds as) : ∀ a ∈ as, P a ∧ H a ≠ none := by
  induction h with
  | nil => intro a ha; cases ha
  | sh _ _ ih => exact ih
  | io h1 h2 _ ih =>
    intro a ha
    have e : a = _ := List.mem_singleton.mp ha
    subst e
    refine ⟨h1, fun z => ?_⟩
    rename_i d _ _ _ _
    cases d with
    | list ds =>
      obtain ⟨_, xs, e, _⟩ := h2
      rw [z] at e
      cases e
    | dict ps =>
      obtain ⟨kvs, e, _⟩ := h2
      rw [z] at e
      cases e
    | _ => exact h2
theorem argEnv_len : ∀ {mask : List Bool} {ds : List PyData}, ds.length = mask.length → (argEnv mask ds).length = mask.length
  | [], [], _ => rfl
  | true :: m, d :: ds, h => by simp [argEnv, argEnv_len (mask := m) (ds := ds) (by simpa using h)]
  | false :: m, d :: ds, h => by simp [argEnv, argEnv_len (mask := m) (ds := ds) (by simpa using h)]
theorem ArgsOk.get {mask : List Bool} {vs : List V} {ds : List PyData} {as : List Addr} (h : ArgsOk K P H mask vs ds as) : ∀ (i : Nat) (x : Sl), (argEnv mask ds)[i]? = some x →
    ∃ v, vs[i]? = some v ∧ ((∃ d, x = .sh d ∧ Dq K (hid P H) v d) ∨ ∃ a d, x = .mu true d ∧ v = .ref a ∧ as = [a] ∧ P a ∧ OwnAt K P H a d) := by
  induction h with
  | nil => intro i x e; simp [argEnv] at e
  | sh h1 h2 ih =>
    intro i x e
    cases i with
    | zero =>
      simp [argEnv] at e
      exact ⟨_, rfl, .inl ⟨_, e.symm, h1⟩⟩
    | succ i =>
      obtain ⟨v, a, b⟩ := ih i x (by simpa [argEnv] using e)
      exact ⟨v, by simpa using a, b⟩
  | io h1 h2 h3 ih =>
    intro i x e
    cases i with
    | zero =>
      simp [argEnv] at e
      exact ⟨_, rfl, .inr ⟨_, _, e.symm, rfl, rfl, h1, h2⟩⟩
    | succ i =>
      obtain ⟨v, a, b⟩ := ih i x (by simpa [argEnv] using e)
      refine ⟨v, by simpa using a, ?_⟩
      rcases b with b | ⟨a', d', _, _, z, _⟩
      · exact .inl b
      · cases z
theorem ArgsOk.one {mask : List Bool} {vs : List V} {ds : List PyData} {as : List Addr} (h : ArgsOk K P H mask vs ds as) : ∀ (i j : Nat) (d e : PyData), (argEnv mask ds)[i]? = some (.mu true d) → (argEnv mask ds)[j]? = some (.mu true e) → i = j := by
  induction h with
  | nil => intro i j d e q; simp [argEnv] at q
  | sh h1 h2 ih =>
    intro i j d e q1 q2
    cases i with
    | zero => simp [argEnv] at q1
    | succ i =>
      cases j with
      | zero => simp [argEnv] at q2
      | succ j => exact congrArg Nat.succ (ih i j d e (by simpa [argEnv] using q1) (by simpa [argEnv] using q2))
  | io h1 h2 h3 ih =>
    have non : ∀ (i : Nat) (x : PyData), (argEnv _ _)[i]? = some (Sl.mu true x) → False := fun i x q => by
      obtain ⟨v, _, z⟩ := h3.get i _ q
      rcases z with ⟨d, z, _⟩ | ⟨a, d, _, _, z, _⟩
      · cases z
      · cases z
    intro i j d e q1 q2
    cases i with
    | zero =>
      cases j with
      | zero => rfl
      | succ j => exact (non j e (by simpa [argEnv] using q2)).elim
    | succ i => exact (non i d (by simpa [argEnv] using q1)).elim
/-- the entry -/
theorem ArgsOk.rel {mask : List Bool} {vs : List V} {ds : List PyData} {as : List Addr} {N : List Str} (h : ArgsOk K P H mask vs ds as) (pt : ∀ a, P a → H a ≠ none) (hN : mask.length ≤ N.length) :
    Rel K ⟨H, fun a => P a ∧ a ∉ as, fun a => a ∈ as⟩ P (start N vs) H (argEnv mask ds ++ List.replicate (N.length - mask.length) .no) := by
  obtain ⟨l1, l2, l3⟩ := h.lens
  have la := argEnv_len l2
  have cut : ∀ (i : Nat) (x : Sl), (argEnv mask ds ++ List.replicate (N.length - mask.length) .no)[i]? = some x → x = .no ∨ (argEnv mask ds)[i]? = some x := fun i x e => by
    by_cases hi : i < (argEnv mask ds).length
    · rw [List.getElem?_append_left hi] at e
      exact .inr e
    · rw [List.getElem?_append_right (Nat.le_of_not_lt hi), List.getElem?_replicate] at e
      split at e
      · cases e
        exact .inl rfl
      · cases e
  have at_ : ∀ (i : Nat) (v : V), vs[i]? = some v → (start N vs)[i]? = some (some v) := fun i v e => by
    unfold start
    have hi : i < vs.length := by
      by_cases hi : i < vs.length
      · exact hi
      · rw [List.getElem?_eq_none (Nat.le_of_not_lt hi)] at e
        cases e
    rw [List.getElem?_append_left (by simpa using hi), List.getElem?_map, e]
    rfl
  refine { len := ?_, sh := fun i d e => ?_, mu := fun i b d e => ?_, dis := fun i j b d e f q1 q2 q3 => ?_, bp := fun a h => h.1, pt := pt, fr := fun a o h _ => h, ip := fun a ha => (h.own a ha).1, it := fun a ha => (h.own a ha).2, bi := fun a h => h.2 }
  · unfold start
    simp only [List.length_append, List.length_map, List.length_replicate, la, l1]
  · rcases cut i _ e with z | z
    · cases z
    · obtain ⟨v, q, r⟩ := h.get i _ z
      rcases r with ⟨d', r1, r2⟩ | ⟨a, d', r1, _⟩
      · cases r1
        exact ⟨v, at_ i v q, r2⟩
      · cases r1
  · rcases cut i _ e with z | z
    · cases z
    · obtain ⟨v, q, r⟩ := h.get i _ z
      rcases r with ⟨d', r1, r2⟩ | ⟨a, d', r1, rfl, r3, r4, r5⟩
      · cases r1
      · cases r1
        have ma : a ∈ as := by rw [r3]; exact List.mem_singleton.mpr rfl
        exact ⟨a, at_ i _ q, r4, r5, fun z => z.2 ma, fun _ => ma, fun z => nomatch z⟩
  · rcases cut i _ q1 with z | z
    · cases z
    · rcases cut j _ q2 with y | y
      · cases y
      · obtain ⟨v, _, r⟩ := h.get i _ z
        obtain ⟨v', _, r'⟩ := h.get j _ y
        rcases r with ⟨d', r1, r2⟩ | ⟨a, d', r1, _⟩
        · cases r1
        · cases r1
          rcases r' with ⟨d', r1, r2⟩ | ⟨a, d', r1, _⟩
          · cases r1
          · cases r1
            exact h.one i j _ _ z y
theorem outsOf_ok : ∀ {mask : List Bool} {env : List Sl} {outs : List PyData}, outsOf mask env = some outs → outs.length = mask.count true ∧ ∀ d ∈ outs, ∃ j : Nat, env[j]? = some (Sl.mu true d)
  | [], _, _, h => by
    cases h
    exact ⟨rfl, fun d hd => by cases hd⟩
  | false :: m, [], _, h => by cases h
  | false :: m, s :: env, outs, h => by
    obtain ⟨a, b⟩ := outsOf_ok (mask := m) (env := env) h
    exact ⟨by simpa using a, fun d hd => let ⟨j, q⟩ := b d hd; ⟨j + 1, by simpa using q⟩⟩
  | true :: m, [], _, h => by cases h
  | true :: m, .no :: env, _, h => by cases h
  | true :: m, .sh _ :: env, _, h => by cases h
  | true :: m, .mu false _ :: env, _, h => by cases h
  | true :: m, .mu true d0 :: env, outs, h => by
    simp only [outsOf, Option.bind_eq_bind, Option.bind_eq_some_iff, Option.pure_def, Option.some.injEq] at h
    obtain ⟨r, k1, k2⟩ := h
    subst k2
    obtain ⟨a, b⟩ := outsOf_ok k1
    refine ⟨by simp [a], fun d hd => ?_⟩
    rcases List.mem_cons.mp hd with z | z
    · subst z
      exact ⟨0, rfl⟩
    · obtain ⟨j, q⟩ := b d z
      exact ⟨j + 1, by simpa using q⟩
theorem outs_rel {c : Cn} {σ : St} {P' : Addr → Prop} {H' : Hp} {env : List Sl} {mask : List Bool} {outs : List PyData} {as : List Addr} {P2 : Addr → Prop} {H2 : Hp} (R0 : Rel K c P' σ H' env) (hI : ∀ a, c.I a → a ∈ as) (hl : as.length = mask.count true) (h1 : as.length ≤ 1)
    (e : outsOf mask env = some outs) (hs : ∀ a d, a ∈ as → P' a → OwnAt K P' H' a d → OwnAt K P2 H2 a d) : OutsOk K P2 H2 as outs := by
  obtain ⟨l, q⟩ := outsOf_ok e
  match as, outs, hl.trans l.symm, h1 with
  | [], [], _, _ => trivial
  | [a], [d], _, _ =>
    obtain ⟨j, hj⟩ := q d (by simp)
    obtain ⟨b, k1, k2, k3, k4, k5, k6⟩ := R0.mu j _ _ hj
    have hb : b = a := List.mem_singleton.mp (hI b (k5 rfl))
    subst hb
    exact hs b d (by simp) k2 k3
theorem ArgsOk.few {mask : List Bool} {vs : List V} {ds : List PyData} {as : List Addr} (h : ArgsOk K P H mask vs ds as) : as.length ≤ 1 := by
  induction h with
  | nil => simp
  | sh _ _ ih => exact ih
  | io _ _ _ _ => simp
end
theorem OwnAt.shown {K : PySem.W.Frag} {P P' : Addr → Prop} {H : Hp} {p : Addr} {d : PyData} (h : OwnAt K P H p d) (np : ¬ P' p) (s : Same (hid P H) (hid P' H)) : Dq K (hid P' H) (.ref p) d := by
  cases d with
  | list ds =>
    obtain ⟨l, xs, e, q⟩ := h
    exact .lst (SqL.of (hid_some.mpr ⟨np, e⟩)) l (q.mono s)
  | dict ps =>
    obtain ⟨kvs, e, q⟩ := h
    exact .dic (hid_some.mpr ⟨np, e⟩) (q.mono s)
  | _ => exact False.elim h
/-- THE RULE: a def of the text by its body's meaning -/
theorem def_ok {P : Program} {w : World} {K : PySem.W.Frag} {mg : Str → Option Value} {base : Heap} {x qual : Str} {params : Arguments} {body : List Stmt} {scope : Scope} {f : Addr} {fd : FuncData} {N ps : List Str} {k : Nat} {mask : List Bool} {fb : Ss}
    (F : FunD K x qual params body scope [] [] f fd) (S : FnScope N ps scope) (hm : mask.length = ps.length) (hn : ps.length ≤ N.length)
    (hb : ∀ (cdv : Value) (A : Around) (outer : List Env) (s : Shared) (H : Hp) (E : XK) (c : Cn), Room k (A.deeper (PyProof.Rows.envOfC qual scope s.heap.objs.size f cdv)) → SSs (cxOf CX0 P w K mg base N qual scope f cdv A outer s H E).nox c body fb) :
    FnOk P w K mg base CX0 (k + 1) f fd ps (spD K mask (runD mask N.length fb)) := by
  refine F.ok S (fun vs H Q E h => ?_) (fun cdv A outer s H vs Q E hr h => ?_)
  · obtain ⟨P0, ds, as, r, outs, ha, _⟩ := h
    rw [ha.lens.1, hm]
  · obtain ⟨P0, ds, as, r, outs, ha, pt, hF, q⟩ := h
    refine ⟨_, PSs.nox (hb cdv A outer s H E ⟨H, fun a => P0 a ∧ a ∉ as, fun a => a ∈ as⟩ hr), ?_⟩
    simp only [runD, Option.bind_eq_bind, Option.bind_eq_some_iff] at hF
    obtain ⟨o, k1, k2⟩ := hF
    refine ⟨P0, _, o, ha.rel pt (by rw [hm]; exact hn), k1, ?_⟩
    have fin : ∀ {σ' : St} {P' : Addr → Prop} {H' : Hp} {env' : List Sl} {v : V} {d : PyData}, Rel K ⟨H, fun a => P0 a ∧ a ∉ as, fun a => a ∈ as⟩ P' σ' H' env' → Dq K (hid P' H') v d → outsOf mask env' = some outs → d = r → Q v H' := by
      intro σ' P' H' env' v d R' hd ho hr
      subst hr
      have sub : ∀ a, P0 a → P' a := fun a h => by
        by_cases ha' : a ∈ as
        · exact R'.ip a ha'
        · exact R'.bp a ⟨h, ha'⟩
      have s : Same (hid P' H') (hid P0 H') := hid_mono sub
      exact q v H' (fun a o' h n => R'.fr a o' h n) (hd.mono s) (outs_rel R' (fun a h => h) ha.lens.2.2 ha.few ho fun a d _ _ h => h.move s fun _ z => z)
    cases o with
    | nx env' =>
      simp only [ended, Option.bind_eq_bind, Option.bind_eq_some_iff, Option.pure_def, Option.some.injEq] at k2
      obtain ⟨o2, k3, k4⟩ := k2
      cases k4
      exact fun σ' P' H' R' _ => fin R' .non k3 rfl
    | rt d env' =>
      simp only [ended, Option.bind_eq_bind, Option.bind_eq_some_iff, Option.pure_def, Option.some.injEq] at k2
      obtain ⟨o2, k3, k4⟩ := k2
      cases k4
      exact fun v σ' P' H' R' _ hd => fin R' hd k3 rfl
    | ro d env' =>
      simp only [ended, Option.bind_eq_bind, Option.bind_eq_some_iff, Option.pure_def, Option.some.injEq] at k2
      obtain ⟨o2, k3, k4⟩ := k2
      cases k4
      intro p ob σ' P' H' R' _ hp ow
      have sub : ∀ a, P0 a → P' a := fun a h => by
        by_cases ha' : a ∈ as
        · exact R'.ip a ha'
        · exact R'.bp a ⟨h, ha'⟩
      have np : ¬ P' p := R'.fresh hp
      have s1 : Same (hid (fun x => P' x ∨ x = p) (upd H' p ob)) (hid P0 (upd H' p ob)) := hid_mono fun a h => .inl (sub a h)
      have s2 : Same (hid P' H') (hid P0 (upd H' p ob)) := Same.trans (hid_push hp) s1
      refine q _ _ (fun a o' h n => ?_) (ow.shown (fun h => np (sub _ h)) s1) (outs_rel R' (fun a h => h) ha.lens.2.2 ha.few k3 fun a d _ pa h => h.move s2 fun o z => ?_)
      · have z := R'.fr a o' h n
        rw [upd_ne (ne_of_none z hp)]
        exact z
      · have ne : a ≠ p := fun e => np (by rw [← e]; exact pa)
        rw [upd_ne ne]
        exact z
    | bk env' => cases k2
    | ct env' => cases k2
/-- a def that hands back a new object -/
theorem def_okO {P : Program} {w : World} {K : PySem.W.Frag} {mg : Str → Option Value} {base : Heap} {x qual : Str} {params : Arguments} {body : List Stmt} {scope : Scope} {f : Addr} {fd : FuncData} {N ps : List Str} {k : Nat} {mask : List Bool} {fb : Ss}
    (F : FunD K x qual params body scope [] [] f fd) (S : FnScope N ps scope) (hm : mask.length = ps.length) (hn : ps.length ≤ N.length)
    (hb : ∀ (cdv : Value) (A : Around) (outer : List Env) (s : Shared) (H : Hp) (E : XK) (c : Cn), Room k (A.deeper (PyProof.Rows.envOfC qual scope s.heap.objs.size f cdv)) → SSs (cxOf CX0 P w K mg base N qual scope f cdv A outer s H E).nox c body fb) :
    FnOk P w K mg base CX0 (k + 1) f fd ps (spO K mask (runO mask N.length fb)) := by
  refine F.ok S (fun vs H Q E h => ?_) (fun cdv A outer s H vs Q E hr h => ?_)
  · obtain ⟨P0, ds, as, r, outs, ha, _⟩ := h
    rw [ha.lens.1, hm]
  · obtain ⟨P0, ds, as, r, outs, ha, pt, hF, q⟩ := h
    refine ⟨_, PSs.nox (hb cdv A outer s H E ⟨H, fun a => P0 a ∧ a ∉ as, fun a => a ∈ as⟩ hr), ?_⟩
    simp only [runO, Option.bind_eq_bind, Option.bind_eq_some_iff] at hF
    obtain ⟨o, k1, k2⟩ := hF
    refine ⟨P0, _, o, ha.rel pt (by rw [hm]; exact hn), k1, ?_⟩
    cases o with
    | ro d env' =>
      simp only [endedO, Option.bind_eq_bind, Option.bind_eq_some_iff, Option.pure_def, Option.some.injEq] at k2
      obtain ⟨o2, k3, k4⟩ := k2
      cases k4
      intro p ob σ' P' H' R' _ hp ow
      have sub : ∀ a, P0 a → P' a := fun a h => by
        by_cases ha' : a ∈ as
        · exact R'.ip a ha'
        · exact R'.bp a ⟨h, ha'⟩
      have np : ¬ P' p := R'.fresh hp
      have s1 : Same (hid (fun x => P' x ∨ x = p) (upd H' p ob)) (hid (fun x => P0 x ∨ x = p) (upd H' p ob)) := hid_mono fun a h => h.imp (sub a) id
      have s2 : Same (hid P' H') (hid (fun x => P0 x ∨ x = p) (upd H' p ob)) := Same.trans (hid_push hp) s1
      refine q _ _ (fun a o' h n => ?_) (R'.new0 hp).1 (ow.move s1 fun _ z => z) (outs_rel R' (fun a h => h) ha.lens.2.2 ha.few k3 fun a d _ pa h => h.move s2 fun o z => ?_)
      · have z := R'.fr a o' h n
        rw [upd_ne (ne_of_none z hp)]
        exact z
      · have ne : a ≠ p := fun e => np (by rw [← e]; exact pa)
        rw [upd_ne ne]
        exact z
    | _ => cases k2
/-! ### calls -/
/-- arguments by a mask; the slot that is lent -/
def argsD : List Bool → List R → List Sl → Option (List PyData × List Nat × List Sl)
  | [], [], env => some ([], [], env)
  | false :: m, r :: rs, env => do
    let (d, e1) ← fz env r
    let (ds, is, e2) ← argsD m rs e1
    pure (d :: ds, is, e2)
  | true :: m, .bor i :: rs, env => do
    let (ds, is, e2) ← argsD m rs env
    match is, e2[i]? with
    | [], some (.mu _ d) => some (d :: ds, [i], e2)
    | _, _ => none
  | _, _, _ => none
/-- what the callee has left -/
def setOuts : List Nat → List PyData → List Sl → Option (List Sl)
  | [], [], env => some env
  | [i], [d], env => match env[i]? with
    | some (.mu b _) => some (env.set i (.mu b d))
    | _ => none
  | _, _, _ => none
def fCallD (mask : List Bool) (F : Fn) (fs : List Sf) : Sf := fun env => do
  let (rs, e1) ← eA fs env
  let (ds, is, e2) ← argsD mask rs e1
  let (r, outs) ← F ds
  let e3 ← setOuts is outs e2
  pure (.d r, e3)
/-- the lent slots and their objects -/
def Lent (K : PySem.W.Frag) (c : Cn) (σ : St) (env : List Sl) : List Nat → List Addr → Prop
  | [], [] => True
  | [i], [a] => σ[i]? = some (some (V.ref a)) ∧ ∃ b d, env[i]? = some (Sl.mu b d)
  | _, _ => False
section
variable {K : PySem.W.Frag} {c : Cn} {σ : St} {H : Hp}
theorem argsD_rel : ∀ {mask : List Bool} {rs : List R} {vs : List V} {P : Addr → Prop} {env env' : List Sl} {ds : List PyData} {is : List Nat}, Rel K c P σ H env → RelTs K P σ H vs rs → argsD mask rs env = some (ds, is, env') →
    ∃ P' as, Rel K c P' σ H env' ∧ Stp P H P' H ∧ ArgsOk K P' H mask vs ds as ∧ Lent K c σ env' is as := by
  intro mask
  induction mask with
  | nil =>
    intro rs vs P env env' ds is R0 h e
    cases h with
    | nil =>
      cases e
      exact ⟨P, [], R0, Stp.refl _ _, .nil, trivial⟩
    | cons => cases e
  | cons b m ih =>
    intro rs vs P env env' ds is R0 h e
    cases h with
    | nil => cases b <;> cases e
    | cons h t =>
      rename_i v r vs rs
      cases b with
      | false =>
        simp only [argsD, Option.bind_eq_bind, Option.bind_eq_some_iff, Option.pure_def, Option.some.injEq] at e
        obtain ⟨⟨d, e1⟩, k1, ⟨ds2, is2, e2⟩, k2, k3⟩ := e
        cases k3
        obtain ⟨P1, R1, s1, q1⟩ := R0.fz h k1
        obtain ⟨P2, as, R2, s2, A2, L2⟩ := ih R1 (t.step s1) k2
        exact ⟨P2, as, R2, s1.trans s2, .sh (q1.mono s2) A2, L2⟩
      | true =>
        cases r with
        | d x => cases e
        | bor i =>
          simp only [argsD, Option.bind_eq_bind, Option.bind_eq_some_iff, Option.pure_def] at e
          obtain ⟨⟨ds2, is2, e2⟩, k2, k3⟩ := e
          obtain ⟨P2, as, R2, s2, A2, L2⟩ := ih R0 t k2
          cases is2 with
          | cons => cases k3
          | nil =>
            cases hi : e2[i]? with
            | none => simp [hi] at k3
            | some s =>
              cases s with
              | no => simp [hi] at k3
              | sh d => simp [hi] at k3
              | mu b d =>
                simp [hi] at k3
                obtain ⟨rfl, rfl, rfl⟩ := k3
                obtain ⟨a, q1, q2, q3, _⟩ := R2.mu i b d hi
                have h : σ[i]? = some (some v) := h
                rw [h] at q1
                cases q1
                cases as with
                | cons => exact L2.elim
                | nil => exact ⟨P2, [a], R2, s2, .io q2 q3 A2, h, b, d, hi⟩
/-- a lent object has come back -/
theorem Rel.back {P : Addr → Prop} {H' : Hp} {env : List Sl} {i : Nat} {a : Addr} {b : Bool} {d d' : PyData} (R0 : Rel K c P σ H env) (hv : σ[i]? = some (some (V.ref a))) (he : env[i]? = some (Sl.mu b d))
    (k : ∀ x o, H x = some o → x ≠ a → H' x = some o) (ho : OwnAt K P H' a d') : Rel K c P σ H' (env.set i (.mu b d')) ∧ Stp P H P H' := by
  obtain ⟨a', h1, h2, h3, h4, h5, h6⟩ := R0.mu i b d he
  rw [hv] at h1
  cases h1
  have s : Stp P H P H' := fun x o e => by
    obtain ⟨p1, p2⟩ := hid_some.mp e
    exact hid_some.mpr ⟨p1, k x o p2 fun z => p1 (z ▸ h2)⟩
  have hlt : i < env.length := by
    by_cases z : i < env.length
    · exact z
    · rw [List.getElem?_eq_none (Nat.le_of_not_lt z)] at he
      cases he
  have new : ∀ (j : Nat) (x : Sl), (env.set i (.mu b d'))[j]? = some x → (i = j ∧ x = .mu b d') ∨ (i ≠ j ∧ env[j]? = some x) := fun j x e => by
    by_cases hij : i = j
    · subst hij
      rw [List.getElem?_set_self hlt] at e
      cases e
      exact .inl ⟨rfl, rfl⟩
    · rw [List.getElem?_set_ne hij] at e
      exact .inr ⟨hij, e⟩
  have old : ∀ (j : Nat) (b2 : Bool) (d2 : PyData), (env.set i (.mu b d'))[j]? = some (Sl.mu b2 d2) → ∃ d3, env[j]? = some (Sl.mu b2 d3) := fun j b2 d2 e => by
    rcases new j _ e with ⟨rfl, z⟩ | ⟨_, z⟩
    · cases z
      exact ⟨d, he⟩
    · exact ⟨_, z⟩
  have ne0 : H' a ≠ none := by
    intro z
    cases d' with
    | list ds =>
      obtain ⟨_, xs, e, _⟩ := ho
      rw [z] at e
      cases e
    | dict ps =>
      obtain ⟨kvs, e, _⟩ := ho
      rw [z] at e
      cases e
    | _ => exact ho
  refine ⟨{ len := by simp [R0.len], sh := fun j f e => ?_, mu := fun j b2 f e => ?_, dis := fun j l b2 f b3 g q1 q2 q3 => ?_, bp := R0.bp, pt := fun x hx => ?_, fr := fun x o h n => ?_, ip := R0.ip, it := R0.it, bi := R0.bi }, s⟩
  · rcases new j _ e with ⟨_, z⟩ | ⟨_, z⟩
    · cases z
    · obtain ⟨v, p1, p2⟩ := R0.sh j f z
      exact ⟨v, p1, p2.mono s⟩
  · rcases new j _ e with ⟨rfl, z⟩ | ⟨n, z⟩
    · cases z
      exact ⟨a, hv, h2, ho, h4, h5, h6⟩
    · obtain ⟨a2, p1, p2, p3, p4⟩ := R0.mu j b2 f z
      have na : a2 ≠ a := fun y => n (R0.dis i j _ _ _ _ he z (by rw [hv, p1, y]))
      exact ⟨a2, p1, p2, p3.move s (fun o q => k a2 o q na), p4⟩
  · obtain ⟨f', e1⟩ := old j _ _ q1
    obtain ⟨g', e2⟩ := old l _ _ q2
    exact R0.dis j l _ _ _ _ e1 e2 q3
  · by_cases hxa : x = a
    · rw [hxa]
      exact ne0
    · cases hH : H x with
      | none => exact absurd hH (R0.pt x hx)
      | some o =>
        rw [k x o hH hxa]
        exact fun z => nomatch z
  · have hx := R0.fr x o h n
    refine k x o hx fun z => ?_
    subst z
    cases b with
    | true => exact n (h5 rfl)
    | false =>
      rw [h6 rfl] at h
      cases h
end
section
variable {X : Cx} {c : Cn} {e : Expr} {es : List Expr} {fs : List Sf} {pos p : Pos} {k : Nat} {f : Addr} {fd : FuncData} {ps : List Str} {mask : List Bool} {F : Fn} {x : Str}
theorem callD_core {σ : St} {H : Hp} {Q : VK} {E : XK} (h : tE X.K c (fCallD mask F fs) σ H Q) : tA X.K c fs σ H fun vs H1 => spD X.K mask F vs H1 Q E := by
  obtain ⟨P, env, r0, env', R0, q, kk⟩ := h
  simp only [fCallD, Option.bind_eq_bind, Option.bind_eq_some_iff, Option.pure_def, Option.some.injEq] at q
  obtain ⟨⟨rs, e1⟩, k1, ⟨ds, is, e2⟩, k2, ⟨r, outs⟩, k3, e3, k4, k5⟩ := q
  cases k5
  refine ⟨P, env, rs, e1, R0, k1, fun vs P1 H1 R1 s1 q1 => ?_⟩
  obtain ⟨P2, as, R2, s2, A2, L2⟩ := argsD_rel R1 q1 k2
  refine ⟨P2, ds, as, r, outs, A2, R2.pt, k3, fun v H' keep hd ho => ?_⟩
  match is, as, outs, L2, k4, ho with
  | [], [], [], _, k4, _ =>
    cases k4
    have s : Same H1 H' := fun b o z => keep b o z (by simp)
    exact kk v P2 H' (R2.same s) (s1.trans (s2.trans (hid_same s))) hd
  | [i], [a], [d], ⟨hv, b, d0, he⟩, k4, ho =>
    simp only [setOuts, he, Option.some.injEq] at k4
    subst k4
    obtain ⟨R3, s3⟩ := R2.back hv he (fun y o z n => keep y o z fun m => n (List.mem_singleton.mp m)) ho
    exact kk v P2 H' R3 (s1.trans (s2.trans s3)) hd
  | [], [], _ :: _, _, k4, _ => cases k4
  | [i], [a], [], _, k4, _ => cases k4
  | [i], [a], _ :: _ :: _, _, k4, _ => cases k4
theorem se_call (G : FnOk X.prog X.w X.K X.mg X.base CX0 k f fd ps (spD X.K mask F)) (hr : Room k X.A) (hg : Gl X x) (hm : X.mg x = some (.ref f)) (hk : PySem.W.keepIn X.K (.ref f) = true) (hb : Binds X.K fd ps [])
    (ha : SA X c (e :: es) fs) (hdb : (x == ("__debug__" : Str)) = false := by decide) (he : starEach (e :: es) X.env = (false, eval e X.env) :: starEach es X.env := by rfl) (hpl : (backTo pos (starEach es X.env)).any (·.1) = false := by rfl) :
    SE X c (.Call (.Name x p) (e :: es) [] pos) (fCallD mask F fs) :=
  imp (pe_call G hr hg hm hk hb .nil pass0 ha hdb he hpl) fun σ H Q h => by
    have q := callD_core (E := E0) h
    show tA X.K c fs σ H fun vs H1 => spD X.K mask F (vs ++ []) H1 Q E0
    simpa only [List.append_nil] using q
theorem se_call0 (G : FnOk X.prog X.w X.K X.mg X.base CX0 k f fd ps (spD X.K mask F)) (hr : Room k X.A) (hg : Gl X x) (hm : X.mg x = some (.ref f)) (hk : PySem.W.keepIn X.K (.ref f) = true) (hb : Binds X.K fd ps [])
    (hdb : (x == ("__debug__" : Str)) = false := by decide) : SE X c (.Call (.Name x p) [] [] pos) (fCallD mask F []) :=
  imp (pe_call0 G hr hg hm hk hb .nil pass0 hdb) fun σ H Q h => by
    obtain ⟨P, env, rs, env', R0, e, q⟩ := callD_core (E := E0) h
    cases e
    exact q [] P H R0 (Stp.refl _ _) .nil
end
end L2.Lp

set_option Elab.async false
set_option linter.all false
set_option maxRecDepth 100000
set_option maxHeartbeats 4000000
/-! Lp7: operators and built-in functions on data. -/
namespace L2.Lp
open PySem PySem.Spec L2
section
variable {X : Cx} {K : PySem.W.Frag}
theorem OpG.or {r r' : R2} {g g' : PyData → PyData → Option PyData} (h : OpG K r g) (h' : OpG K r' g') : OpG K (fun x y H Q => r x y H Q ∨ r' x y H Q) (fun a b => (g a b).or (g' a b)) := by
  intro x y H P d1 d2 d Q q1 q2 pt e k
  have e : (g d1 d2).or (g' d1 d2) = some d := e
  cases hg : g d1 d2 with
  | some z =>
    rw [hg] at e
    exact .inl (h x y H P d1 d2 d Q q1 q2 pt (by rw [hg]; exact e) k)
  | none =>
    rw [hg] at e
    exact .inr (h' x y H P d1 d2 d Q q1 q2 pt e k)
theorem Da.int {P : Addr → Prop} {H : Hp} {v : V} {i : Int} (h : Da K P H v (.int i)) : v = .int i := dq_int h.dq
theorem Da.str {P : Addr → Prop} {H : Hp} {v : V} {i : Str} (h : Da K P H v (.str i)) : v = .str i := by
  have := h.dq
  cases this
  rfl
theorem Da.bool {P : Addr → Prop} {H : Hp} {v : V} {i : Bool} (h : Da K P H v (.bool i)) : v = .bl i := by
  have := h.dq
  cases this
  rfl
theorem Da.none {P : Addr → Prop} {H : Hp} {v : V} (h : Da K P H v .none) : v = .non := by
  have := h.dq
  cases this
  rfl
/-- a tuple is never an owned object -/
theorem Da.tup {P : Addr → Prop} {H : Hp} {v : V} {ds : List PyData} (h : Da K P H v (.tuple ds)) : ∃ a xs, v = .ref a ∧ SqT K (hid P H) a xs ∧ ds.length ≤ sizeLine ∧ DqAll K (hid P H) xs ds := by
  rcases h with h | ⟨a, _, _, h⟩
  · cases h with
    | tup hs hl ha => exact ⟨_, _, rfl, hs, hl, ha⟩
  · exact h.elim
theorem Da.lst {P : Addr → Prop} {H : Hp} {v : V} {ds : List PyData} (h : Da K P H v (.list ds)) : ∃ a xs, v = .ref a ∧ SqL K H a xs ∧ ds.length ≤ sizeLine ∧ DqAll K (hid P H) xs ds := by
  rcases h with h | ⟨a, rfl, _, h⟩
  · cases h with
    | lst hs hl ha => exact ⟨_, _, rfl, same_sqL (hid_sub _ _) hs, hl, ha⟩
  · obtain ⟨hl, xs, e, q⟩ := h
    exact ⟨a, xs, rfl, SqL.of e, hl, q⟩
/-- the items of a list or a tuple, by places -/
theorem Da.seq {P : Addr → Prop} {H : Hp} {v : V} {d : PyData} {ds : List PyData} (h : Da K P H v d) (e : items d = some ds) : ∃ a xs, v = .ref a ∧ (SqL K H a xs ∨ SqT K H a xs) ∧ ds.length ≤ sizeLine ∧ DqAll K (hid P H) xs ds := by
  cases d with
  | list es =>
    cases e
    obtain ⟨a, xs, h1, h2, h3, h4⟩ := h.lst
    exact ⟨a, xs, h1, .inl h2, h3, h4⟩
  | tuple es =>
    cases e
    obtain ⟨a, xs, h1, h2, h3, h4⟩ := h.tup
    exact ⟨a, xs, h1, .inr (same_sqT (hid_sub _ _) h2), h3, h4⟩
  | _ => cases e
theorem Fin1.now {P : Addr → Prop} {H : Hp} {d : PyData} {Q : VK} {v : V} (k : Fin1 K P H d Q) (q : Dq K (hid P H) v d) : Q v H := k v H (Same.refl _) q
/-! ### ints -/
def gInt (f : Int → Int → Option PyData) : PyData → PyData → Option PyData
  | .int i, .int j => f i j
  | _, _ => none
theorem gInt_some {f : Int → Int → Option PyData} {a b d : PyData} (h : gInt f a b = some d) : ∃ i j, a = .int i ∧ b = .int j ∧ f i j = some d := by
  unfold gInt at h
  split at h
  · exact ⟨_, _, rfl, rfl, h⟩
  · cases h
theorem opg_rI {C : Int → Int → Prop} [∀ i j, Decidable (C i j)] {g : Int → Int → Int} : OpG K (rI C fun i j => .int (g i j)) (gInt fun i j => if C i j then some (.int (g i j)) else none) := by
  intro x y H P d1 d2 d Q q1 q2 pt e k
  obtain ⟨i, j, rfl, rfl, e2⟩ := gInt_some e
  replace e := e2
  split at e
  · rename_i hc
    cases e
    exact ⟨i, j, q1.int, q2.int, hc, k.now (.int _)⟩
  · cases e
theorem opg_rI0 {g : Int → Int → Int} : OpG K (rI0 fun i j => .int (g i j)) (gInt fun i j => some (.int (g i j))) := by
  intro x y H P d1 d2 d Q q1 q2 pt e k
  obtain ⟨i, j, rfl, rfl, e2⟩ := gInt_some e
  replace e := e2
  cases e
  exact ⟨i, j, q1.int, q2.int, k.now (.int _)⟩
theorem opg_rB0 {g : Int → Int → Bool} : OpG K (rI0 fun i j => .bl (g i j)) (gInt fun i j => some (.bool (g i j))) := by
  intro x y H P d1 d2 d Q q1 q2 pt e k
  obtain ⟨i, j, rfl, rfl, e2⟩ := gInt_some e
  replace e := e2
  cases e
  exact ⟨i, j, q1.int, q2.int, k.now (.bl _)⟩
instance (i j : Int) : Decidable (CMul i j) := by unfold CMul; infer_instance
instance (i j : Int) : Decidable (CDivW i j) := by unfold CDivW; infer_instance
instance (i j : Int) : Decidable (CPow i j) := by unfold CPow; infer_instance
def gSub : PyData → PyData → Option PyData := gInt fun i j => some (.int (i - j))
def gMul : PyData → PyData → Option PyData := gInt fun i j => if CMul i j then some (.int (i * j)) else none
def gMod : PyData → PyData → Option PyData := gInt fun i j => if 0 < j then some (.int (i % j)) else none
def gDiv : PyData → PyData → Option PyData := gInt fun i j => if CDivW i j then some (.int (i / j)) else none
def gPow : PyData → PyData → Option PyData := gInt fun i j => if CPow i j then some (.int (i ^ j.toNat)) else none
theorem opg_sub : OpG K (rI0 fun i j => .int (i - j)) gSub := opg_rI0
theorem opg_mul : OpG K (rI CMul fun i j => .int (i * j)) gMul := opg_rI
theorem opg_mod : OpG K (rI (fun _ j => 0 < j) fun i j => .int (i % j)) gMod := opg_rI
theorem opg_div : OpG K (rI CDivW fun i j => .int (i / j)) gDiv := opg_rI
theorem opg_pow : OpG K (rI CPow fun i j => .int (i ^ j.toNat)) gPow := opg_rI
def gLt : PyData → PyData → Option PyData := gInt fun i j => some (.bool (decide (i < j)))
def gLe : PyData → PyData → Option PyData := gInt fun i j => some (.bool (decide (i ≤ j)))
def gGt : PyData → PyData → Option PyData := gInt fun i j => some (.bool (decide (j < i)))
def gGe : PyData → PyData → Option PyData := gInt fun i j => some (.bool (decide (j ≤ i)))
theorem opg_lt : OpG K (rI0 fun i j => .bl (decide (i < j))) gLt := opg_rB0
theorem opg_le : OpG K (rI0 fun i j => .bl (decide (i ≤ j))) gLe := opg_rB0
theorem opg_gt : OpG K (rI0 fun i j => .bl (decide (j < i))) gGt := opg_rB0
theorem opg_ge : OpG K (rI0 fun i j => .bl (decide (j ≤ i))) gGe := opg_rB0
/-! ### + of ints, texts, tuples; of lists -/
def gAdd : PyData → PyData → Option PyData
  | .int i, .int j => some (.int (i + j))
  | .str x, .str y => if x.length + y.length ≤ 16777216 then some (.str (x ++ y)) else none
  | .tuple xs, .tuple ys => if xs.length + ys.length ≤ 16777216 then some (.tuple (xs ++ ys)) else none
  | _, _ => none
def rAddA (K : PySem.W.Frag) : R2 := fun x y H Q => rI0 (fun i j => .int (i + j)) x y H Q ∨ ((∃ i j, x = .str i ∧ y = .str j ∧ i.length + j.length ≤ sizeLine ∧ Q (.str (i ++ j)) H) ∨ rCatA K x y H Q)
theorem op_addA : OpR X (binaryOp .Add) (rAddA X.K) := op_add.or (op_add_str.or op_catA)
theorem opg_add : OpG K (rAddA K) gAdd := by
  intro x y H P d1 d2 d Q q1 q2 pt e k
  unfold gAdd at e
  split at e
  · cases e
    exact .inl ⟨_, _, q1.int, q2.int, k.now (.int _)⟩
  · split at e
    · rename_i hl
      cases e
      exact .inr (.inl ⟨_, _, q1.str, q2.str, by rw [sizeLine_eq]; exact hl, k.now (.str _)⟩)
    · cases e
  · split at e
    · rename_i us ws hl
      cases e
      obtain ⟨a, xs, rfl, h1, l1, a1⟩ := q1.tup
      obtain ⟨b, ys, rfl, h2, l2, a2⟩ := q2.tup
      refine .inr (.inr ⟨a, b, xs, ys, rfl, rfl, same_sqT (hid_sub _ _) h1, same_sqT (hid_sub _ _) h2, by rw [a1.len, a2.len, sizeLine_eq]; exact hl, fun z => ?_, fun _ z => ?_, fun _ _ p hp => ?_⟩)
      · subst z
        cases a1
        exact k.now (.tup h2 l2 a2)
      · subst z
        cases a2
        refine k.now ?_
        rw [List.append_nil]
        exact .tup h1 l1 a1
      · have s3 := upd_ext (o := .tup (xs ++ ys)) hp
        exact k _ _ s3 (.tup (SqT.of (hid_some.mpr ⟨fun z => pt p z hp, upd_same⟩)) (by rw [List.length_append, sizeLine_eq]; exact hl) ((a1.app a2).mono (hid_same s3)))
    · cases e
  · cases e
/-- lists: both are tracked ones -/
def gCat : PyData → PyData → Option (List PyData)
  | .list xs, .list ys => if xs.length + ys.length ≤ 16777216 then some (xs ++ ys) else none
  | _, _ => none
def rCatL (K : PySem.W.Frag) : R2 := fun x y H Q => ∃ l b xs zs, x = .ref l ∧ y = .ref b ∧ SqL K H l xs ∧ SqL K H b zs ∧ xs.length + zs.length ≤ sizeLine ∧ ∀ p, H p = none → Q (.ref p) (upd H p (.lst (xs ++ zs)))
theorem opg_cat : FreshG K (rCatL K) gCat := by
  intro x y H P d1 d2 ds Q q1 q2 e k
  unfold gCat at e
  split at e
  · split at e
    · rename_i us ws hl
      cases e
      obtain ⟨a, xs, rfl, h1, l1, a1⟩ := q1.lst
      obtain ⟨b, ys, rfl, h2, l2, a2⟩ := q2.lst
      exact ⟨a, b, xs, ys, rfl, rfl, h1, h2, by rw [a1.len, a2.len, sizeLine_eq]; exact hl, fun p hp => k p _ (a1.app a2) (by rw [List.length_append, sizeLine_eq]; exact hl) hp⟩
    · cases e
  · cases e
/-! ### ==, in -/
def gEq (d e : PyData) : Option PyData := if SeqAt.shaped d = true ∧ SeqAt.shaped e = true then some (.bool (PyData.eqv d e)) else none
def gNe (d e : PyData) : Option PyData := if SeqAt.shaped d = true ∧ SeqAt.shaped e = true then some (.bool (!PyData.eqv d e)) else none
mutual
theorem noD_of : ∀ {d : PyData}, PyData.canLay0 d = true → noD d = true
  | .none, _ => rfl
  | .bool _, _ => rfl
  | .int _, _ => rfl
  | .str _, _ => rfl
  | .list xs, h => noDs_of (by simpa [PyData.canLay0] using h)
  | .tuple xs, h => noDs_of (by simpa [PyData.canLay0] using h)
  | .dict _, h => by simp [PyData.canLay0] at h
theorem noDs_of : ∀ {ds : List PyData}, PyData.canLayAll0 ds = true → noDs ds = true
  | [], _ => rfl
  | d :: ds, h => by
    simp [PyData.canLayAll0] at h
    simp [noDs, noD_of h.1, noDs_of h.2]
end
theorem Da.dp {P : Addr → Prop} {H : Hp} {v : V} {d : PyData} (h : Da K P H v d) (s : SeqAt.shaped d = true) : Dp K H v d := h.dq.dp (noD_of (SeqAt.canLay_of_shaped s))
theorem opg_eq : OpG K (rEqD K) gEq := by
  intro x y H P d1 d2 d Q q1 q2 pt e k
  unfold gEq at e
  split at e
  · rename_i h
    cases e
    exact ⟨d1, d2, q1.dp h.1, q2.dp h.2, h.1, h.2, k.now (.bl _)⟩
  · cases e
theorem opg_ne : OpG K (rNeD K) gNe := by
  intro x y H P d1 d2 d Q q1 q2 pt e k
  unfold gNe at e
  split at e
  · rename_i h
    cases e
    exact ⟨d1, d2, q1.dp h.1, q2.dp h.2, h.1, h.2, k.now (.bl _)⟩
  · cases e
def rInS (K : PySem.W.Frag) (neg : Bool) : R2 := fun x y H Q => ∃ d c ds, Dp K H x d ∧ Dp K H y c ∧ items c = some ds ∧ SeqAt.shaped d = true ∧ SeqAt.shaped c = true ∧ Q (.bl (if neg then !(ds.any fun z => PyData.eqv z d) else ds.any fun z => PyData.eqv z d)) H
theorem op_inS (hu : X.A.units + 65 < cLine) : OpR X (compareOp .In) (rInS X.K false) := by
  intro pins s σ H x y v u Q I rx ry h
  obtain ⟨d, c, ds, hd, he, hi, sd, se, q⟩ := h
  obtain ⟨as, r1⟩ := Dp.reads I d x v hd rx
  obtain ⟨bs, r2⟩ := Dp.reads I c y u he ry
  have c1 := SeqAt.canLay_of_shaped se
  have c2 := SeqAt.canLay_of_shaped sd
  have hdep := SeqAt.depth_of_shaped sd
  cases c with
  | list es =>
    cases hi
    exact SeqAt.in_list_reads r2 r1 c1 c2 (by have := Nat.min_le_right (PyData.depthAll ds) d.depth; omega) ⟨.bl _, H, I, rfl, q⟩
  | tuple es =>
    cases hi
    exact SeqAt.in_tuple_reads r2 r1 c1 c2 (by have := Nat.min_le_right (PyData.depthAll ds) d.depth; omega) ⟨.bl _, H, I, rfl, q⟩
  | _ => cases hi
theorem op_notInS (hu : X.A.units + 65 < cLine) : OpR X (compareOp .NotIn) (rInS X.K true) := by
  intro pins s σ H x y v u Q I rx ry h
  obtain ⟨d, c, ds, hd, he, hi, sd, se, q⟩ := h
  obtain ⟨as, r1⟩ := Dp.reads I d x v hd rx
  obtain ⟨bs, r2⟩ := Dp.reads I c y u he ry
  have c1 := SeqAt.canLay_of_shaped se
  have c2 := SeqAt.canLay_of_shaped sd
  have hdep := SeqAt.depth_of_shaped sd
  cases c with
  | list es =>
    cases hi
    exact SeqAt.notIn_list_reads r2 r1 c1 c2 (by have := Nat.min_le_right (PyData.depthAll ds) d.depth; omega) ⟨.bl _, H, I, rfl, q⟩
  | tuple es =>
    cases hi
    exact SeqAt.notIn_tuple_reads r2 r1 c1 c2 (by have := Nat.min_le_right (PyData.depthAll ds) d.depth; omega) ⟨.bl _, H, I, rfl, q⟩
  | _ => cases hi
def gIn (neg : Bool) (d c : PyData) : Option PyData := do
  let ds ← items c
  if SeqAt.shaped d = true ∧ SeqAt.shaped c = true then some (.bool (if neg then !(ds.any fun z => PyData.eqv z d) else ds.any fun z => PyData.eqv z d)) else none
theorem opg_in {neg : Bool} : OpG K (rInS K neg) (gIn neg) := by
  intro x y H P d1 d2 d Q q1 q2 pt e k
  simp only [gIn, Option.bind_eq_bind, Option.bind_eq_some_iff] at e
  obtain ⟨ds, e1, e2⟩ := e
  split at e2
  · rename_i h
    cases e2
    exact ⟨d1, d2, ds, q1.dp h.1, q2.dp h.2, e1, h.1, h.2, k.now (.bl _)⟩
  · cases e2
/-! ### is None -/
def isNo : PyData → Bool
  | .none => true
  | _ => false
theorem Da.isNo {P : Addr → Prop} {H : Hp} {v : V} {d : PyData} (h : Da K P H v d) : decide (v = .non) = isNo d := by
  have h := h.dq
  cases h <;> rfl
def gIsN : PyData → PyData → Option PyData
  | d, .none => some (.bool (isNo d))
  | _, _ => none
def gNotN : PyData → PyData → Option PyData
  | d, .none => some (.bool (!isNo d))
  | _, _ => none
theorem opg_isN : OpG K (fun x y H Q => y = .non ∧ Q (.bl (decide (x = .non))) H) gIsN := by
  intro x y H P d1 d2 d Q q1 q2 pt e k
  unfold gIsN at e
  split at e
  · cases e
    refine ⟨q2.none, ?_⟩
    rw [q1.isNo]
    exact k.now (.bl _)
  · cases e
theorem opg_notN : OpG K (fun x y H Q => y = .non ∧ Q (.bl (!decide (x = .non))) H) gNotN := by
  intro x y H P d1 d2 d Q q1 q2 pt e k
  unfold gNotN at e
  split at e
  · cases e
    refine ⟨q2.none, ?_⟩
    rw [q1.isNo]
    exact k.now (.bl _)
  · cases e
/-! ### built-in functions of one argument -/
theorem DaAll.one {P : Addr → Prop} {H : Hp} {xs : List V} {d : PyData} (h : DaAll K P H xs [d]) : ∃ v, xs = [v] ∧ Da K P H v d := by
  cases h with
  | cons a b =>
    cases b
    exact ⟨_, rfl, a⟩
theorem DaAll.two {P : Addr → Prop} {H : Hp} {xs : List V} {d e : PyData} (h : DaAll K P H xs [d, e]) : ∃ v u, xs = [v, u] ∧ Da K P H v d ∧ Da K P H u e := by
  cases h with
  | cons a b =>
    obtain ⟨u, rfl, b2⟩ := b.one
    exact ⟨_, _, rfl, a, b2⟩
def g1 (f : PyData → Option PyData) : List PyData → Option PyData
  | [d] => f d
  | _ => none
theorem g1_some {f : PyData → Option PyData} {ds : List PyData} {d : PyData} (h : g1 f ds = some d) : ∃ x, ds = [x] ∧ f x = some d := by
  unfold g1 at h
  split at h
  · exact ⟨_, rfl, h⟩
  · cases h
def lenD : PyData → Option PyData
  | .list ds => some (.int ds.length)
  | .tuple ds => some (.int ds.length)
  | .str x => if x.length ≤ 16777216 then some (.int x.length) else none
  | _ => none
def rLenA (K : PySem.W.Frag) : List V → Hp → VK → Prop := fun xs H Q => (∃ p ys, xs = [.ref p] ∧ (SqL K H p ys ∨ SqT K H p ys) ∧ Q (.int ys.length) H) ∨ ∃ z, xs = [.str z] ∧ z.length ≤ sizeLine ∧ Q (.int z.length) H
theorem call_lenA : CallR X (.builtin "len") (rLenA X.K) := call_len_seq.or call_len_str
theorem cg_len : CallG K (rLenA K) (g1 lenD) := by
  intro xs H P ds d Q q pt e k
  obtain ⟨x, rfl, e2⟩ := g1_some e
  obtain ⟨v, rfl, q2⟩ := q.one
  replace e := e2
  replace q := q2
  unfold lenD at e
  split at e
  · cases e
    obtain ⟨a, ys, rfl, h, _, ha⟩ := q.lst
    refine .inl ⟨a, ys, rfl, .inl h, ?_⟩
    rw [ha.len]
    exact k.now (.int _)
  · cases e
    obtain ⟨a, ys, rfl, h, _, ha⟩ := q.tup
    refine .inl ⟨a, ys, rfl, .inr (same_sqT (hid_sub _ _) h), ?_⟩
    rw [ha.len]
    exact k.now (.int _)
  · split at e
    · rename_i hl
      cases e
      exact .inr ⟨_, by rw [q.str], by rw [sizeLine_eq]; exact hl, k.now (.int _)⟩
    · cases e
  · cases e
def tupD : PyData → Option PyData
  | .list ds => some (.tuple ds)
  | .tuple ds => some (.tuple ds)
  | _ => none
theorem cg_tuple : CallG K (fun xs H Q => ∃ p ys, xs = [.ref p] ∧ ((SqL K H p ys ∧ ∀ l, H l = none → Q (.ref l) (upd H l (.tup ys))) ∨ (SqT K H p ys ∧ Q (.ref p) H))) (g1 tupD) := by
  intro xs H P ds d Q q pt e k
  obtain ⟨x, rfl, e2⟩ := g1_some e
  obtain ⟨v, rfl, q2⟩ := q.one
  replace e := e2
  replace q := q2
  unfold tupD at e
  split at e
  · cases e
    obtain ⟨a, ys, rfl, h, hl, ha⟩ := q.lst
    refine ⟨a, ys, rfl, .inl ⟨h, fun l hn => ?_⟩⟩
    have s3 := upd_ext (o := .tup ys) hn
    exact k _ _ s3 (.tup (SqT.of (hid_some.mpr ⟨fun z => pt l z hn, upd_same⟩)) hl (ha.mono (hid_same s3)))
  · cases e
    obtain ⟨a, ys, rfl, h, hl, ha⟩ := q.tup
    exact ⟨a, ys, rfl, .inr ⟨same_sqT (hid_sub _ _) h, k.now (.tup h hl ha)⟩⟩
  · cases e
def g1L (f : PyData → Option (List PyData)) : List PyData → Option (List PyData)
  | [d] => f d
  | _ => none
theorem cg_list : FreshCG K (fun xs H Q => ∃ p ys, xs = [.ref p] ∧ (SqL K H p ys ∨ SqT K H p ys) ∧ ∀ l, H l = none → Q (.ref l) (upd H l (.lst ys))) (g1L items) := by
  intro xs H P ds d Q q e k
  unfold g1L at e
  split at e
  · obtain ⟨v, rfl, q2⟩ := q.one
    obtain ⟨a, ys, rfl, h, hl, ha⟩ := q2.seq e
    exact ⟨a, ys, rfl, h, fun l hn => k l ys ha hl hn⟩
  · cases e
def boolsOf : List PyData → Option (List Bool)
  | [] => some []
  | .bool b :: ds => do
    let r ← boolsOf ds
    pure (b :: r)
  | _ => none
theorem boolsOf_some : ∀ {ds : List PyData} {bs : List Bool}, boolsOf ds = some bs → ds = bs.map .bool
  | [], bs, h => by cases h; rfl
  | .bool b :: ds, bs, h => by
    simp only [boolsOf, Option.bind_eq_bind, Option.bind_eq_some_iff, Option.pure_def, Option.some.injEq] at h
    obtain ⟨r, h1, rfl⟩ := h
    rw [boolsOf_some h1]
    rfl
  | .none :: _, _, h => by cases h
  | .int _ :: _, _, h => by cases h
  | .str _ :: _, _, h => by cases h
  | .list _ :: _, _, h => by cases h
  | .tuple _ :: _, _, h => by cases h
  | .dict _ :: _, _, h => by cases h
def intsOf : List PyData → Option (List Int)
  | [] => some []
  | .int b :: ds => do
    let r ← intsOf ds
    pure (b :: r)
  | _ => none
theorem intsOf_some : ∀ {ds : List PyData} {bs : List Int}, intsOf ds = some bs → ds = bs.map .int
  | [], bs, h => by cases h; rfl
  | .int b :: ds, bs, h => by
    simp only [intsOf, Option.bind_eq_bind, Option.bind_eq_some_iff, Option.pure_def, Option.some.injEq] at h
    obtain ⟨r, h1, rfl⟩ := h
    rw [intsOf_some h1]
    rfl
  | .none :: _, _, h => by cases h
  | .bool _ :: _, _, h => by cases h
  | .str _ :: _, _, h => by cases h
  | .list _ :: _, _, h => by cases h
  | .tuple _ :: _, _, h => by cases h
  | .dict _ :: _, _, h => by cases h
def onL (f : List PyData → Option PyData) : PyData → Option PyData
  | .list ds => f ds
  | _ => none
theorem onL_some {f : List PyData → Option PyData} {x d : PyData} (h : onL f x = some d) : ∃ ds, x = .list ds ∧ f ds = some d := by
  unfold onL at h
  split at h
  · exact ⟨_, rfl, h⟩
  · cases h
def anyD : PyData → Option PyData := onL fun ds => (boolsOf ds).map fun bs => .bool (bs.any id)
def allD : PyData → Option PyData := onL fun ds => (boolsOf ds).map fun bs => .bool (bs.all id)
def sumD : PyData → Option PyData := onL fun ds => (intsOf ds).map fun bs => .int bs.sum
theorem cg_any : CallG K (rAny K) (g1 anyD) := by
  intro xs H P ds d Q q pt e k
  obtain ⟨x, rfl, e2⟩ := g1_some e
  obtain ⟨v, rfl, q2⟩ := q.one
  replace e := e2
  replace q := q2
  obtain ⟨es, rfl, e3⟩ := onL_some e
  obtain ⟨bs, e1, rfl⟩ := Option.map_eq_some_iff.mp e3
  obtain ⟨a, ys, rfl, h, _, ha⟩ := q.lst
  rw [boolsOf_some e1] at ha
  exact ⟨a, bs, rfl, by rw [← ha.bls]; exact h, k.now (.bl _)⟩
theorem cg_all : CallG K (rAll K) (g1 allD) := by
  intro xs H P ds d Q q pt e k
  obtain ⟨x, rfl, e2⟩ := g1_some e
  obtain ⟨v, rfl, q2⟩ := q.one
  replace e := e2
  replace q := q2
  obtain ⟨es, rfl, e3⟩ := onL_some e
  obtain ⟨bs, e1, rfl⟩ := Option.map_eq_some_iff.mp e3
  obtain ⟨a, ys, rfl, h, _, ha⟩ := q.lst
  rw [boolsOf_some e1] at ha
  exact ⟨a, bs, rfl, by rw [← ha.bls]; exact h, k.now (.bl _)⟩
theorem cg_sum : CallG K (rSum K) (g1 sumD) := by
  intro xs H P ds d Q q pt e k
  obtain ⟨x, rfl, e2⟩ := g1_some e
  obtain ⟨v, rfl, q2⟩ := q.one
  replace e := e2
  replace q := q2
  obtain ⟨es, rfl, e3⟩ := onL_some e
  obtain ⟨bs, e1, rfl⟩ := Option.map_eq_some_iff.mp e3
  obtain ⟨a, ys, rfl, h, _, ha⟩ := q.lst
  rw [intsOf_some e1] at ha
  exact ⟨a, bs, rfl, by rw [← ha.ints]; exact h, k.now (.int _)⟩
def absD : PyData → Option PyData
  | .int i => some (.int (if i < 0 then -i else i))
  | _ => none
theorem cg_abs : CallG K (fun xs H Q => ∃ i, xs = [.int i] ∧ Q (.int (if i < 0 then -i else i)) H) (g1 absD) := by
  intro xs H P ds d Q q pt e k
  obtain ⟨x, rfl, e2⟩ := g1_some e
  obtain ⟨v, rfl, q2⟩ := q.one
  replace e := e2
  replace q := q2
  unfold absD at e
  split at e
  · cases e
    exact ⟨_, by rw [q.int], k.now (.int _)⟩
  · cases e
def intD : PyData → Option PyData
  | .int i => some (.int i)
  | .bool b => some (.int (if b then 1 else 0))
  | _ => none
theorem cg_int : CallG K (fun xs H Q => (∃ i, xs = [.int i] ∧ Q (.int i) H) ∨ ∃ k, xs = [.bl k] ∧ Q (.int (if k then 1 else 0)) H) (g1 intD) := by
  intro xs H P ds d Q q pt e k
  obtain ⟨x, rfl, e2⟩ := g1_some e
  obtain ⟨v, rfl, q2⟩ := q.one
  replace e := e2
  replace q := q2
  unfold intD at e
  split at e
  · cases e
    exact .inl ⟨_, by rw [q.int], k.now (.int _)⟩
  · cases e
    exact .inr ⟨_, by rw [q.bool], k.now (.int _)⟩
  · cases e
def g2i (f : Int → Int → Int) : List PyData → Option PyData
  | [.int i, .int j] => some (.int (f i j))
  | _ => none
theorem cg_2i {f : Int → Int → Int} : CallG K (fun xs H Q => ∃ i j, xs = [.int i, .int j] ∧ Q (.int (f i j)) H) (g2i f) := by
  intro xs H P ds d Q q pt e k
  unfold g2i at e
  split at e
  · cases e
    obtain ⟨v, u, rfl, q1, q2⟩ := q.two
    exact ⟨_, _, by rw [q1.int, q2.int], k.now (.int _)⟩
  · cases e
def maxD : List PyData → Option PyData := g2i fun i j => if j > i then j else i
def minD : List PyData → Option PyData := g2i fun i j => if j < i then j else i
/-! ### subscripts -/
def gIx (d i : PyData) : Option PyData := match i with
  | .int j => do
    let ds ← items d
    atI ds j
  | _ => none
theorem DqAll.atI {H : Hp} {xs : List V} {ds : List PyData} {i : Int} {d : PyData} (h : DqAll K H xs ds) (e : atI ds i = some d) : ∃ v, L2.atI xs i = some v ∧ Dq K H v d := by
  unfold L2.atI at e ⊢
  simp only [Option.bind_eq_some_iff] at e
  obtain ⟨j, e1, e2⟩ := e
  obtain ⟨v, h1, h2⟩ := h.got e2
  exact ⟨v, by rw [h.len, e1]; exact h1, h2⟩
theorem opg_ix : OpG K (fun x y H Q => rIxL K x y H Q ∨ rIxT K x y H Q) gIx := by
  intro x y H P d1 d2 d Q q1 q2 pt e k
  unfold gIx at e
  split at e
  · simp only [Option.bind_eq_bind, Option.bind_eq_some_iff] at e
    obtain ⟨ds, e1, e2⟩ := e
    obtain ⟨a, xs, rfl, h, _, ha⟩ := q1.seq e1
    obtain ⟨v, h1, h2⟩ := ha.atI e2
    rcases h with h | h
    · exact .inl ⟨a, xs, _, v, rfl, q2.int, h, h1, k.now h2⟩
    · exact .inr ⟨a, xs, _, v, rfl, q2.int, h, h1, k.now h2⟩
  · cases e
theorem ix_two : IxR X (fun x y H Q => rIxL X.K x y H Q ∨ rIxT X.K x y H Q) := ix_list.or ix_tup
end
end L2.Lp

set_option Elab.async false
set_option linter.all false
set_option maxRecDepth 100000
set_option maxHeartbeats 4000000
/-! Lp8: sorted of alike data, empty tuples among them. -/
namespace L2.Lp
open PySem PySem.Spec L2
/-! ### a sort by insertion -/
section
variable {α : Type} {le : α → α → Bool}
def ins (le : α → α → Bool) (x : α) : List α → List α
  | [] => [x]
  | y :: ys => if le x y then x :: y :: ys else y :: ins le x ys
def isort (le : α → α → Bool) : List α → List α
  | [] => []
  | x :: xs => ins le x (isort le xs)
theorem mem_ins' {x z : α} : ∀ {l : List α}, z ∈ ins le x l ↔ z = x ∨ z ∈ l
  | [] => by simp [ins]
  | y :: ys => by
    unfold ins
    split
    · simp
    · simp only [List.mem_cons, mem_ins' (l := ys)]
      constructor
      · rintro (h | h | h)
        · exact .inr (.inl h)
        · exact .inl h
        · exact .inr (.inr h)
      · rintro (h | h | h)
        · exact .inr (.inl h)
        · exact .inl h
        · exact .inr (.inr h)
theorem mem_isort {z : α} : ∀ {l : List α}, z ∈ isort le l ↔ z ∈ l
  | [] => Iff.rfl
  | x :: xs => by
    show z ∈ ins le x (isort le xs) ↔ _
    rw [mem_ins', mem_isort, List.mem_cons]
theorem len_ins' (x : α) : ∀ l : List α, (ins le x l).length = l.length + 1
  | [] => rfl
  | y :: ys => by
    unfold ins
    split
    · rfl
    · simp [len_ins' x ys]
theorem len_isort : ∀ l : List α, (isort le l).length = l.length
  | [] => rfl
  | x :: xs => by
    show (ins le x (isort le xs)).length = _
    rw [len_ins', len_isort]
    rfl
theorem ins_up (h : PySem.W.TotalLe le) {x : α} : ∀ {l : List α}, l.Pairwise (fun a b => le a b = true) → (ins le x l).Pairwise fun a b => le a b = true
  | [], _ => by simp [ins]
  | y :: ys, p => by
    obtain ⟨p1, p2⟩ := List.pairwise_cons.mp p
    unfold ins
    split
    · rename_i hxy
      refine List.pairwise_cons.mpr ⟨fun z hz => ?_, p⟩
      rcases List.mem_cons.mp hz with e | hz
      · rw [e]
        exact hxy
      · exact h.trans _ _ _ hxy (p1 z hz)
    · rename_i hxy
      refine List.pairwise_cons.mpr ⟨fun z hz => ?_, ins_up h p2⟩
      rcases mem_ins'.mp hz with e | hz
      · rw [e]
        exact (h.total x y).resolve_left hxy
      · exact p1 z hz
theorem isort_up (h : PySem.W.TotalLe le) : ∀ l : List α, (isort le l).Pairwise fun a b => le a b = true
  | [] => .nil
  | x :: xs => ins_up h (isort_up h xs)
theorem ins_keep (h : PySem.W.TotalLe le) (c x : α) : ∀ l : List α, (ins le x l).filter (PySem.W.sameRank le c) = (x :: l).filter (PySem.W.sameRank le c)
  | [] => rfl
  | y :: ys => by
    unfold ins
    split
    · rfl
    · rename_i hxy
      rw [List.filter_cons, ins_keep h c x ys]
      simp only [List.filter_cons]
      by_cases hx : PySem.W.sameRank le c x = true
      · by_cases hy : PySem.W.sameRank le c y = true
        · have h1 : le x c = true := (Bool.and_eq_true_iff.mp hx).2
          have h2 : le c y = true := (Bool.and_eq_true_iff.mp hy).1
          exact absurd (h.trans _ _ _ h1 h2) hxy
        · simp [hx, hy]
      · simp [hx]
theorem isort_keep (h : PySem.W.TotalLe le) (c : α) : ∀ l : List α, (isort le l).filter (PySem.W.sameRank le c) = l.filter (PySem.W.sameRank le c)
  | [] => rfl
  | x :: xs => by
    show (ins le x (isort le xs)).filter _ = _
    rw [ins_keep h, List.filter_cons, List.filter_cons, isort_keep h c xs]
theorem isort_is (h : PySem.W.TotalLe le) (l : List α) : isort le l = l.mergeSort le := PySem.W.sort_unique h (isort_up h l) (isort_keep h · l)
end
/-! ### tuples, an empty one among them -/
open PySem.W PySem.SeqAt PySem.Calls
section
variable {prog : Program} {w : World} {A : Around} {E : Value → Shared → Prop} {s : Shared}
theorem oneLt_tup {f : Bool} {xs ys : List PyData} {a b : Value} {as bs : List Addr} {Q : Bool → Shared → Prop} (ra : Reads s.heap a (.tuple xs) as) (rb : Reads s.heap b (.tuple ys) bs) (h : alike (.tuple xs) (.tuple ys) = true)
    (hu : A.units + min (PyData.tuple xs).depth (PyData.tuple ys).depth < cLine) (hq : Q (dataLt (.tuple xs) (.tuple ys)) s) : wpAny (model prog w) A (PyProof.Rows.oneLt' f a b) Q E s := by
  cases f with
  | false => exact oneLt_alike (fun z => nomatch z) ra rb h (fun z => nomatch z) hu hq
  | true =>
    have hal : alikeAll xs ys = true := by simpa [alike] using h
    cases ra with
    | @tuple l o vs n _ _ h1 h2 h3 h4 =>
      cases rb with
      | @tuple l' o' vs' n' _ _ k1 k2 k3 k4 =>
        have n1 : vs.size = xs.length := by simpa using ReadsAll.length _ _ _ h4
        have n2 : vs'.size = ys.length := by simpa using ReadsAll.length _ _ _ k4
        rw [dataLt_tuple, ← firstLt_toks xs ys hal, ← n1, ← n2] at hq
        obtain ⟨c1, d1, e1, f1⟩ := o
        obtain ⟨c2, d2, e2, f2⟩ := o'
        simp only at h2 h3 k2 k3
        subst h2 h3 k2 k3
        rw [PyProof.Rows.oneLt'_eq]
        simp only [if_true]
        refine wpAny_bind (wpAny_cRoomFor (room_here hu) (wpAny_bind (wpAny_callSpecialIfBound?_slot (T := "tuple") ⟨_, h1, rfl⟩ F.slot_tuple_lt ?_)))
        refine call_meets F.slot_tuple_lt ⟨_, h1, rfl⟩ F.entry_tuple_lt (F.args_tuple_lt_2 _ _) (tuple_ltAt l l' vs vs' n n' d1 d2 f1 f2 (pairEq xs ys) fun j => dataLt (xs.getD j .none) (ys.getD j .none)) ?_
        refine ⟨h1, k1, fun j j1 j2 => ?_, fun j j1 j2 hj => ?_, ?_⟩
        · have z := eqAt_alikeAll xs ys A.in1 s vs.toList vs'.toList _ _ h4 k4 hal (room_in hu) j (by simpa using j1) (by simpa using j2)
          rw [Array.getElem_toList, Array.getElem_toList] at z
          exact z
        · have z := rcLt_alikeAll xs ys A.in1 s vs.toList vs'.toList _ _ h4 k4 hal (room_in hu) j (by simpa using j1) (by simpa using j2) hj
          rw [Array.getElem_toList, Array.getElem_toList] at z
          exact z
        · exact wpAny_truthy_bool hq
/-- not the empty tuple -/
def full : PyData → Bool
  | .tuple [] => false
  | _ => true
theorem full_not {d : PyData} (h : full d = false) : d = .tuple [] := by
  unfold full at h
  split at h
  · rfl
  · cases h
/-- the first items of tuples -/
theorem firsts_any {M : Model} : ∀ {vs : List Value} {ds : List PyData}, EachIs (fun v d => ∃ as, Reads s.heap v d as) vs ds → (∀ d, d ∈ ds → ∃ xs, d = .tuple xs) →
    ∃ fs : List (Option Value), fs.map (·.isSome) = ds.map full ∧ ∀ Q : List (Option Value) → Shared → Prop, Q fs s → wpAny M A (vs.mapM PyProof.Rows.firstOfTuple') Q E s
  | _, _, .nil, _ => ⟨[], rfl, fun Q q => by
      rw [List.mapM_nil]
      exact wpAny_pure q⟩
  | _, _, .cons (a := v) (b := d) ⟨as, r⟩ t, ht => by
    obtain ⟨fs, h1, h2⟩ := firsts_any (M := M) t fun d hd => ht d (List.mem_cons_of_mem _ hd)
    obtain ⟨xs, rfl⟩ := ht d (List.mem_cons_self ..)
    cases r with
    | @tuple a o vs n _ _ ho hc hd hr =>
      refine ⟨vs[0]? :: fs, ?_, fun Q q => ?_⟩
      · rw [List.map_cons, List.map_cons, h1]
        congr 1
        have hl : vs.size = xs.length := by simpa using ReadsAll.length _ _ _ hr
        cases xs with
        | nil =>
          rw [Array.getElem?_eq_none (by rw [hl]; exact Nat.le_refl _)]
          rfl
        | cons x xr =>
          rw [Array.getElem?_eq_getElem (by rw [hl]; exact Nat.succ_pos _)]
          rfl
      · rw [List.mapM_cons]
        refine wpAny_bind ?_
        rw [kas_first_eq]
        refine wpAny_bind (Looks.here (show Looks M s.heap (typeOf (.ref a)) o.cls from (Looks.ld ho).andThen .now) ?_)
        rw [hc, if_neg (by first | decide | simp)]
        refine wpAny_bind (PyProof.Rows.listItems_at ho hd (wpAny_pure ?_))
        exact wpAny_bind (h2 _ (wpAny_pure q))
theorem sortsAt_tups {vs : List Value} {ds : List PyData} (e : EachIs (fun v d => ∃ as, Reads s.heap v d as) vs ds) (hal : AllAlike ds) (ht : ∀ d, d ∈ ds → ∃ xs, d = .tuple xs) (hu : ∀ d, d ∈ ds → A.units + d.depth < cLine) :
    SortsAt prog w A s (dataKind s.heap ds) vs := by
  by_cases hne : ∀ d, d ∈ ds → d ≠ .tuple []
  · refine SortsAt.data e hal (.inl fun d hd => ?_) hu
    obtain ⟨xs, rfl⟩ := ht d hd
    cases xs with
    | nil => exact absurd rfl (hne _ hd)
    | cons x r => exact ⟨x, r, rfl⟩
  · have lt : ∀ f : Bool, ∀ (E : Value → Shared → Prop) (x y : Value) (a b : (dataKind s.heap ds).α) {Q : Bool → Shared → Prop}, (dataKind s.heap ds).keyOf x = some a → (dataKind s.heap ds).keyOf y = some b → Q ((dataKind s.heap ds).blt a b) s → wpAny (model prog w) A (PyProof.Rows.oneLt' f x y) Q E s := by
      intro f E x y a b Q ha hb hq
      obtain ⟨d, as, hd, ra, rfl⟩ := dataKind_inv ha
      obtain ⟨d', as', hd', rb, rfl⟩ := dataKind_inv hb
      obtain ⟨xs, rfl⟩ := ht d hd
      obtain ⟨ys, rfl⟩ := ht d' hd'
      exact oneLt_tup ra rb (hal _ hd _ hd') (Nat.lt_of_le_of_lt (Nat.add_le_add_left (Nat.min_le_left _ _) _) (hu _ hd)) hq
    have kinds : ∃ kd, (kd = PyProof.Rows.general' ∨ kd = PyProof.Rows.oneType') ∧ (2 ≤ vs.length → ∀ (E : Value → Shared → Prop) {Q : PyProof.Rows.SortKind → Shared → Prop}, Q kd s → wpAny (model prog w) A (PyProof.Rows.keyKind' vs.toArray) Q E s) := by
      have nall : ∀ fs : List (Option Value), fs.map (·.isSome) = ds.map full → (fs.toArray.all fun x => x.isSome) = false := by
        intro fs hf
        cases hq : (fs.toArray.all fun x => x.isSome) with
        | false => rfl
        | true =>
          exfalso
          apply hne
          intro d hd z
          simp only [List.all_toArray, List.all_eq_true] at hq
          have : ∀ b ∈ fs.map (·.isSome), b = true := by
            intro b hb
            obtain ⟨x, hx, rfl⟩ := List.mem_map.mp hb
            exact hq x hx
          rw [hf] at this
          have := this _ (List.mem_map.mpr ⟨d, hd, rfl⟩)
          rw [z] at this
          cases this
      have types : ∀ (E : Value → Shared → Prop) (Q : Option Value → Shared → Prop), 0 < vs.length → Q (some (.type "tuple")) s → wpAny (model prog w) A (PyProof.Rows.oneTypeOnly' vs.toArray) Q E s := by
        intro E Q h0 hq
        rw [PyProof.Rows.oneTypeOnly'_eq, List.mapM_toArray, map_eq_pure_bind]
        refine wpAny_bind (wpAny_bind (kas_mapM (r := Value.type "tuple") _ (fun v hv Q' hq' => ?_) (wpAny_pure ?_)))
        · obtain ⟨d, hd, as, r⟩ := e.left v hv
          obtain ⟨xs, rfl⟩ := ht d hd
          exact (looks_reads r).here hq'
        · obtain ⟨v, r, rfl⟩ : ∃ v r, vs = v :: r := by
            cases vs with
            | nil => exact absurd h0 (Nat.lt_irrefl _)
            | cons v r => exact ⟨v, r, rfl⟩
          have hall : ((List.map (fun _ => Value.type "tuple") (v :: r)).toArray.all fun x => x == Value.type "tuple") = true := by
            simp only [List.all_toArray, List.all_map, List.all_eq_true]
            intro _ _
            exact beq_self_eq_true _
          have h0 : (List.map (fun _ => Value.type "tuple") (v :: r)).toArray[0]? = some (Value.type "tuple") := by simp
          rw [h0]
          simp only [hall, if_true]
          exact wpAny_pure hq
      cases ds with
      | nil => exact absurd (fun d hd => by cases hd) hne
      | cons d₀ dr =>
        by_cases h0 : d₀ = .tuple []
        · refine ⟨PyProof.Rows.oneType', .inr rfl, fun h2 E Q hq => ?_⟩
          obtain ⟨fs, hf, hrun⟩ := firsts_any (M := model prog w) (A := A) (E := E) e ht
          rw [PyProof.Rows.keyKind'_eq, List.mapM_toArray, map_eq_pure_bind]
          refine wpAny_bind (wpAny_bind (hrun _ (wpAny_pure ?_)))
          rw [if_neg (by rw [nall fs hf]; decide)]
          have hb : (fs.toArray[0]?.bind id).isSome = false := by
            cases fs with
            | nil => rfl
            | cons g gr =>
              have this : g.isSome = full d₀ := (List.cons.inj hf).1
              rw [h0] at this
              cases g with
              | none => rfl
              | some z => cases this
          rw [if_neg (by rw [hb]; decide)]
          refine wpAny_bind (types _ _ (by omega) ?_)
          exact wpAny_pure hq
        · refine ⟨PyProof.Rows.general', .inl rfl, fun h2 E Q hq => ?_⟩
          obtain ⟨fs, hf, hrun⟩ := firsts_any (M := model prog w) (A := A) (E := E) e ht
          rw [PyProof.Rows.keyKind'_eq, List.mapM_toArray, map_eq_pure_bind]
          refine wpAny_bind (wpAny_bind (hrun _ (wpAny_pure ?_)))
          rw [if_neg (by rw [nall fs hf]; decide)]
          have hb : (fs.toArray[0]?.bind id).isSome = true := by
            cases fs with
            | nil => cases hf
            | cons g gr =>
              have this : g.isSome = full d₀ := (List.cons.inj hf).1
              have hfull : full d₀ = true := by
                cases hz : full d₀ with
                | true => rfl
                | false => exact absurd (full_not hz) h0
              rw [hfull] at this
              cases g with
              | none => cases this
              | some z => rfl
          rw [if_pos hb]
          exact wpAny_pure hq
    obtain ⟨kd, hkd, hrun⟩ := kinds
    refine ⟨fun v hv => ?_, kd, ?_, hrun⟩
    · obtain ⟨d, hd, as, r⟩ := e.left v hv
      exact ⟨_, dataKind_some hal hd r⟩
    · intro E x y a b Q ha hb hq
      rcases hkd with rfl | rfl
      · exact lt false E x y a b ha hb hq
      · exact lt true E x y a b ha hb hq
end
end L2.Lp

set_option Elab.async false
set_option linter.all false
set_option maxRecDepth 100000
set_option maxHeartbeats 4000000
/-! Lp9: sorted(list) on data. -/
namespace L2.Lp
open PySem PySem.Spec L2 PySem.W
def isTup : PyData → Bool
  | .tuple _ => true
  | _ => false
/-- such data can be sorted here -/
def sortOk (ds : List PyData) : Bool :=
  (ds.all fun d => ds.all fun e => alike d e) && ((ds.all isTup) || ds.all fun d => !isTup d && !isNo d) && ds.all fun d => decide (d.depth ≤ 60) && PyData.canLay0 d
/-- the order of data -/
def leD (a b : PyData) : Bool := !dataLt b a
def sortD (ds : List PyData) : List PyData := isort leD ds
theorem leD_is : (leD : PyData → PyData → Bool) = dataLe false (fun d => d) := by
  funext a b
  rfl
theorem leD_total : TotalLe leD := by
  rw [leD_is]
  exact sortLe_total _ _ _
theorem sortD_is (ds : List PyData) : sortD ds = ds.mergeSort (dataLe false fun d => d) := by
  unfold sortD
  rw [isort_is leD_total, leD_is]
/-- pairs of a value and its datum, sorted by the datum -/
theorem sort_pairs (bs : List (V × PyData)) : (bs.mergeSort (dataLe false Prod.snd)).map Prod.snd = sortD (bs.map Prod.snd) := by
  rw [sortD_is]
  exact sort_maps Prod.snd fun _ _ _ _ => rfl
theorem isTup_some {d : PyData} (h : isTup d = true) : ∃ xs, d = .tuple xs := by
  cases d with
  | tuple xs => exact ⟨xs, rfl⟩
  | _ => cases h
section
variable {prog : Program} {w : World} {A : Around} {s : Shared}
theorem sortsAt_ok {vs : List Value} {ds : List PyData} (e : EachIs (fun v d => ∃ as, Reads s.heap v d as) vs ds) (h : sortOk ds = true) (hu : A.units + 60 < cLine) : SortsAt prog w A s (dataKind s.heap ds) vs := by
  unfold sortOk at h
  simp only [Bool.and_eq_true, Bool.or_eq_true, List.all_eq_true, decide_eq_true_eq] at h
  obtain ⟨⟨h1, h2⟩, h3⟩ := h
  have hal : AllAlike ds := h1
  have hd : ∀ d, d ∈ ds → A.units + d.depth < cLine := fun d hd => by
    have := (h3 d hd).1
    omega
  rcases h2 with h2 | h2
  · exact sortsAt_tups e hal (fun d hd => isTup_some (h2 d hd)) hd
  · refine SortsAt.data e hal (.inr fun d hd => ⟨fun z => ?_, fun xs z => ?_⟩) hd
    · have := (h2 d hd).2
      rw [z] at this
      cases this
    · have := (h2 d hd).1
      rw [z] at this
      cases this
theorem each_map2 {β : Type} {R : Value → β → Prop} {R' : Value → PyData → Prop} (enc : β → PyData) (h : ∀ v b, R v b → R' v (enc b)) : ∀ {vs : List Value} {bs : List β}, EachIs R vs bs → EachIs R' vs (bs.map enc)
  | _, _, .nil => .nil
  | _, _, .cons a t => .cons (h _ _ a) (each_map2 enc h t)
/-- sorted of a list whose items read as data -/
theorem sorted_ok {l : Addr} {vs : List Value} {β : Type} {bs : List β} {enc : β → PyData} {R : Value → β → Prop} {E : Value → Shared → Prop} {Q : Value → Shared → Prop} (hl : s.heap.IsList l vs.toArray) (e : EachIs R vs bs) (er : EachIs (fun v b => ∃ as, Reads s.heap v (enc b) as) vs bs)
    (hk : sortOk (bs.map enc) = true) (hL : bs.length ≤ sizeLine) (hu : A.units + 64 < cLine)
    (h : ∀ out, EachIs R out (bs.mergeSort (dataLe false enc)) → Q (.ref (s.heap.objs.size + 1)) { s with heap := PyProof.Rows.sortedAll s.heap vs (List.toArray out) }) : wpAny (model prog w) A (call (.builtin "sorted") [.ref l]) Q E s := by
  have er2 : EachIs (fun v b => ∃ as, Reads (sortingHeap (copyHeap s.heap vs) (s.heap.objs.size + 1) vs) v (enc b) as) vs bs :=
    er.mono fun _ _ q => let ⟨as, r⟩ := q; ⟨as, PyProof.Rows.Reads.keeps (fun _ _ => sorting_copy_old) r⟩
  have hal : AllAlike (bs.map enc) := by
    unfold sortOk at hk
    simp only [Bool.and_eq_true, List.all_eq_true] at hk
    exact hk.1.1
  have S := sortsAt_ok (prog := prog) (w := w) (A := A.in1.in1) (s := { s with heap := sortingHeap (copyHeap s.heap vs) (s.heap.objs.size + 1) vs }) (each_map2 (R' := fun v d => ∃ as, Reads (sortingHeap (copyHeap s.heap vs) (s.heap.objs.size + 1) vs) v d as) enc (fun _ _ q => q) er2) hk
    (by show A.units + 1 + 1 + 60 < cLine; omega)
  exact sorted_vals hl S (by rw [e.length]; exact hL) (h _ (sortVals_data false e er2 hal))
end
section
variable {X : Cx} {K : PySem.W.Frag}
def rSortD (K : PySem.W.Frag) : List V → Hp → VK → Prop := fun vs H Q => ∃ (a : Addr) (bs : List (V × PyData)), vs = [.ref a] ∧ SqL K H a (bs.map Prod.fst) ∧ (∀ b ∈ bs, Dp K H b.1 b.2) ∧ sortOk (bs.map Prod.snd) = true ∧ bs.length ≤ sizeLine ∧
  ∀ p, H p = none → Q (.ref p) (upd H p (.lst ((bs.mergeSort (dataLe false Prod.snd)).map Prod.fst)))
theorem vals_each : ∀ {bs : List (V × PyData)} {us : List Value}, Vals (bs.map Prod.fst) us → EachIs (fun v b => RelV b.1 v) us bs
  | [], _, r => by
    cases r
    exact .nil
  | b :: bs, _, r => by
    cases r with
    | cons h t => exact .cons h (vals_each t)
theorem each_vals : ∀ {bs : List (V × PyData)} {us : List Value}, EachIs (fun v b => RelV b.1 v) us bs → Vals (bs.map Prod.fst) us
  | [], _, r => by
    cases r
    exact .nil
  | b :: bs, _, r => by
    cases r with
    | cons h t => exact .cons h (each_vals t)
theorem each_reads {pins : List (Addr × Obj)} {σ : St} {H : Hp} {s : Shared} (I : Inv X pins σ H s) : ∀ {bs : List (V × PyData)} {us : List Value}, EachIs (fun v b => RelV b.1 v) us bs → (∀ b ∈ bs, Dp X.K H b.1 b.2) → EachIs (fun v b => ∃ as, Reads s.heap v b.2 as) us bs
  | [], _, r, _ => by
    cases r
    exact .nil
  | b :: bs, _, r, h => by
    cases r with
    | cons h1 t => exact .cons (Dp.reads I _ _ _ (h b (List.mem_cons_self ..)) h1) (each_reads I t fun c hc => h c (List.mem_cons_of_mem _ hc))
theorem cr_sortD (hu : X.A.units + 64 < cLine) : CallR X (.builtin "sorted") (rSortD X.K) := by
  intro pins s σ H vs us Q I r h
  obtain ⟨a, bs, rfl, hs, hd, hk, hl, q⟩ := h
  obtain ⟨its, rv, pl, _⟩ := I.list hs
  rw [Vals.ref1 r]
  have e1 := vals_each rv
  refine sorted_ok pl.isList e1 (each_reads I e1 hd) hk hl hu fun out ho => ?_
  obtain ⟨ep, hat⟩ := PyProof.Rows.sortedAll_at s.heap its out.toArray
  have hlen : ((bs.mergeSort (dataLe false Prod.snd)).map Prod.fst).length ≤ sizeLine := by
    rw [List.length_map, List.length_mergeSort]
    exact hl
  refine ⟨.ref (s.heap.objs.size + 1), _, I.laid (t' := s.toks) (fun b u z => PyProof.Rows.sortedAll_old z) (Nat.le_add_right _ 1) (o := .lst ((bs.mergeSort (dataLe false Prod.snd)).map Prod.fst)) ?_, rfl, q _ (I.hok.fresh (Nat.le_add_right _ 1))⟩
  exact ⟨hlen, out, ep, each_vals ho, hat⟩
theorem dqAll_pairs {H : Hp} : ∀ {xs : List V} {ds : List PyData}, DqAll K H xs ds → (xs.zip ds).map Prod.fst = xs ∧ (xs.zip ds).map Prod.snd = ds ∧ ∀ b ∈ xs.zip ds, Dq K H b.1 b.2
  | _, _, .nil => ⟨rfl, rfl, fun b hb => by cases hb⟩
  | _, _, .cons a t => by
    obtain ⟨h1, h2, h3⟩ := dqAll_pairs t
    refine ⟨by simp [h1], by simp [h2], fun b hb => ?_⟩
    rcases List.mem_cons.mp hb with e | hb
    · rw [e]
      exact a
    · exact h3 b hb
theorem pairs_dqAll {H : Hp} : ∀ {bs : List (V × PyData)}, (∀ b ∈ bs, Dq K H b.1 b.2) → DqAll K H (bs.map Prod.fst) (bs.map Prod.snd)
  | [], _ => .nil
  | b :: bs, h => .cons (h b (List.mem_cons_self ..)) (pairs_dqAll fun c hc => h c (List.mem_cons_of_mem _ hc))
def sortedD (d : PyData) : Option (List PyData) := match d with
  | .list ds => if sortOk ds = true then some (sortD ds) else none
  | _ => none
theorem sortOk_lay {ds : List PyData} (h : sortOk ds = true) : ∀ d ∈ ds, PyData.canLay0 d = true := by
  unfold sortOk at h
  simp only [Bool.and_eq_true, List.all_eq_true] at h
  exact fun d hd => (h.2 d hd).2
theorem cg_sorted : FreshCG K (rSortD K) (g1L sortedD) := by
  intro xs H P ds d Q q e k
  unfold g1L at e
  split at e
  · obtain ⟨v, rfl, q2⟩ := q.one
    rename_i x
    unfold sortedD at e
    split at e
    · rename_i es
      split at e
      · rename_i hk
        cases e
        obtain ⟨a, ys, rfl, h, hl, ha⟩ := q2.lst
        obtain ⟨p1, p2, p3⟩ := dqAll_pairs ha
        have hlen : (ys.zip es).length ≤ sizeLine := by
          rw [List.length_zip, ha.len, Nat.min_self]
          exact hl
        refine ⟨a, ys.zip es, rfl, by rw [p1]; exact h, fun b hb => ?_, by rw [p2]; exact hk, hlen, fun p hp => ?_⟩
        · have hm : b.2 ∈ es := by
            rw [← p2]
            exact List.mem_map.mpr ⟨b, hb, rfl⟩
          exact ((p3 b hb).mono (hid_sub P H)).dp (noD_of (sortOk_lay hk _ hm))
        · have hq := pairs_dqAll (K := K) (H := hid P H) (bs := (ys.zip es).mergeSort (dataLe false Prod.snd)) fun b hb => p3 b (List.mem_mergeSort.mp hb)
          rw [sort_pairs, p2] at hq
          exact k p _ hq (by unfold sortD; rw [len_isort]; exact hl) hp
      · cases e
    · cases e
  · cases e
end
end L2.Lp

set_option Elab.async false
set_option linter.all false
set_option maxRecDepth 100000
set_option maxHeartbeats 4000000
/-! Lp10: set(xs) where xs is a list of nested tuples: the table, the search, adding. -/
namespace L2.Lp
open PySem PySem.Spec PyProof.Rows L2
abbrev Row := Addr × NestedKey
abbrev hs (w : World) (L : List Row) : List Int := L.map fun r => r.2.hash w
def ents (w : World) (L : List Row) : List (Int × Value) := L.map fun r => (r.2.hash w, Value.ref r.1)
def NK (h : Heap) (r : Row) : Prop := NestedIs h r.2 (.ref r.1) ∧ r.2.depth ≤ 8
/-- the walk of a search for hash n -/
abbrev go0 (m : Nat) (n : Int) : SetTable.Probe := runAt m (SetTable.bits n % (m + 1)) (SetTable.bits n)
theorem nk_keep {h h' : Heap} {r : Row} (x : NK h r) (k : ∀ b o, h.get? b = some o → h'.get? b = some o) : NK h' r :=
  ⟨NestedIs.at (fun b o vs n e _ => k b o e) _ _ x.1, x.2⟩
theorem nk_but {h h' : Heap} {r : Row} {a : Addr} {o : Obj} {es ep t} (x : NK h r) (ho : h.get? a = some o) (hd : o.data = .set es ep t) (sb : Heap.SameBut a h h') : NK h' r := by
  refine ⟨NestedIs.at (fun b q vs n e d => ?_) _ _ x.1, x.2⟩
  have ne : b ≠ a := fun z => by
    subst z
    rw [ho] at e
    cases e
    rw [hd] at d
    cases d
  rw [sb.2 b ne, e]
theorem nk_tup {h : Heap} {r : Row} (x : NK h r) : ∃ o vs n ks, h.get? r.1 = some o ∧ o.cls = .type "tuple" ∧ o.data = .seq vs n ∧ NestedAll h ks vs.toList ∧ r.2 = .tup ks ∧ NestedKey.depthAll ks + 1 ≤ 8 := by
  obtain ⟨a, k⟩ := r
  obtain ⟨y, d⟩ := x
  cases y with
  | tup h1 h2 h3 h4 => exact ⟨_, _, _, _, h1, h2, h3, h4, rfl, by simpa [NestedKey.depth] using d⟩
section
variable {P : Program} {w : World} {A : Around} {E : Value → Shared → Prop} {s : Shared}
/-- whether a class statement stands behind a value: never behind such a key -/
def NoCls (P : Program) (w : World) (n : Nat) (s : Shared) (v : Value) : Prop := ∀ (A : Around) (E : Value → Shared → Prop) (Q : Bool → Shared → Prop), Q false s → wpAny (model P w) A (ofAClassStatement n v) Q E s
/-- whether a hash goes by value: answered, and nothing else happens -/
def Hbv (P : Program) (w : World) (n : Nat) (s : Shared) (v : Value) : Prop := ∃ b : Bool, ∀ (A : Around) (E : Value → Shared → Prop) (Q : Bool → Shared → Prop), Q b s → wpAny (model P w) A (hashByValue n v) Q E s
mutual
theorem noCls : ∀ (k : NestedKey) (v : Value) (n : Nat) (s : Shared), NestedIs s.heap k v → k.depth ≤ n → NoCls P w n s v
  | .none, _, n, s, x, _ => by
    cases x
    intro A E Q q
    cases n <;> exact wpAny_pure q
  | .num i, _, n, s, x, _ => by
    cases x <;> (intro A E Q q; cases n <;> exact wpAny_pure q)
  | .text y, _, n, s, x, _ => by
    cases x
    intro A E Q q
    cases n <;> exact wpAny_pure q
  | .tup ks, _, n, s, x, hn => by
    cases x with
    | @tup a o vs m _ h1 h2 h3 h4 =>
      simp only [NestedKey.depth] at hn
      cases n with
      | zero => omega
      | succ n =>
        have all := noClss ks vs.toList n s h4 (by omega)
        intro A E Q q
        unfold ofAClassStatement
        refine wpAny_bind (wpAny_typeOf ⟨o, h1, h2⟩ ?_)
        have e : (("tuple" : String) == "tuple") = true := by decide
        simp only [e, if_true, Bool.not_true, Bool.false_eq_true, if_false]
        try refine wpAny_bind (wpAny_pure ?_)
        try simp only [Bool.not_true, Bool.false_eq_true, if_false]
        refine wpAny_bind (wpAny_seqItems h1 h3 ?_)
        dsimp only
        refine wpAny_bind (show wpAny _ _ (forIn vs _ _) _ _ s from ?_)
        rw [← Array.forIn_toList]
        refine wpAny_forIn_list _ (fun rest r s' => r.1 = none ∧ s' = s ∧ ∀ v ∈ rest, NoCls P w n s v) _ (fun v rest r s' st => ?_) (fun r s' st => ?_) _ _ ⟨rfl, rfl, all⟩
        · obtain ⟨_, rfl, al⟩ := st
          refine wpAny_bind (al v List.mem_cons_self _ _ _ ?_)
          simp only [Bool.false_eq_true, if_false]
          exact wpAny_pure ⟨rfl, rfl, fun u m => al u (List.mem_cons_of_mem _ m)⟩
        · obtain ⟨r1, r2⟩ := r
          obtain ⟨c, rfl, _⟩ := st
          obtain rfl : r1 = none := c
          exact wpAny_pure q
theorem noClss : ∀ (ks : List NestedKey) (vs : List Value) (n : Nat) (s : Shared), NestedAll s.heap ks vs → NestedKey.depthAll ks ≤ n → ∀ v ∈ vs, NoCls P w n s v
  | [], _, n, s, x, _ => by
    cases x
    intro v m
    cases m
  | k :: ks, _, n, s, x, hn => by
    cases x with
    | cons y z =>
      simp only [NestedKey.depthAll] at hn
      intro v m
      cases m with
      | head => exact noCls k _ n s y (by omega)
      | tail _ m => exact noClss ks _ n s z (by omega) v m
end
mutual
theorem hbv : ∀ (k : NestedKey) (v : Value) (n : Nat) (s : Shared), NestedIs s.heap k v → k.depth ≤ n → Hbv P w n s v
  | .none, _, n, s, x, _ => by
    cases x
    exact ⟨true, fun A E Q q => by cases n <;> exact wpAny_pure q⟩
  | .num i, _, n, s, x, _ => by
    cases x <;> exact ⟨true, fun A E Q q => by cases n <;> exact wpAny_pure q⟩
  | .text y, _, n, s, x, _ => by
    cases x
    exact ⟨false, fun A E Q q => by cases n <;> exact wpAny_pure q⟩
  | .tup ks, _, n, s, x, hn => by
    cases x with
    | @tup a o vs m _ h1 h2 h3 h4 =>
      simp only [NestedKey.depth] at hn
      cases n with
      | zero => omega
      | succ n =>
        obtain ⟨b, all⟩ := hbvs ks vs.toList n s h4 (by omega)
        refine ⟨b, fun A E Q q => ?_⟩
        unfold hashByValue
        refine wpAny_bind (wpAny_specialOf ⟨o, h1, h2⟩ F.slot_tuple_hash.lookup ?_)
        refine wpAny_bind (wpAny_seqItems h1 h3 ?_)
        refine wpAny_bind (show wpAny _ _ (forIn vs _ _) _ _ s from ?_)
        rw [← Array.forIn_toList]
        refine all A E _ ?_
        cases b
        · exact wpAny_pure q
        · exact wpAny_pure q
theorem hbvs : ∀ (ks : List NestedKey) (vs : List Value) (n : Nat) (s : Shared), NestedAll s.heap ks vs → NestedKey.depthAll ks ≤ n →
    ∃ b : Bool, ∀ (A : Around) (E : Value → Shared → Prop) (Q : Option Bool × Unit → Shared → Prop), Q (if b then (none, ()) else (some false, ())) s →
      wpAny (model P w) A (forIn vs ((none, ()) : Option Bool × Unit) fun x r => do
        let c ← hashByValue n x
        if (!c) = true then pure (ForInStep.done (some false, ())) else pure (ForInStep.yield (none, ()))) Q E s
  | [], _, n, s, x, _ => by
    cases x
    exact ⟨true, fun A E Q q => wpAny_pure q⟩
  | k :: ks, _, n, s, x, hn => by
    cases x with
    | cons y z =>
      simp only [NestedKey.depthAll] at hn
      obtain ⟨b1, e1⟩ := hbv k _ n s y (by omega)
      obtain ⟨b2, e2⟩ := hbvs ks _ n s z (by omega)
      refine ⟨b1 && b2, fun A E Q q => ?_⟩
      rw [List.forIn_cons]
      refine wpAny_bind (wpAny_bind (e1 _ _ _ ?_))
      cases b1
      · simp only [Bool.not_false, if_true]
        exact wpAny_pure (wpAny_pure q)
      · simp only [Bool.not_true, Bool.false_eq_true, if_false]
        exact wpAny_pure (e2 _ _ _ q)
end
end
end L2.Lp

set_option Elab.async false
set_option linter.all false
set_option maxRecDepth 100000
set_option maxHeartbeats 4000000
/-! Lp11: the table of a set of nested tuples: seeking and adding. -/
namespace L2.Lp
open PySem PySem.Spec PyProof.Rows L2
section
variable {P : Program} {w : World} {A : Around} {E : Value → Shared → Prop} {s : Shared}
/-- a seeking shows nothing: no such key has a class statement behind it -/
theorem unseen {x : Row} (hx : NK s.heap x) {ys : List Value} (hy : ∀ y ∈ ys, ∃ r : Row, y = .ref r.1 ∧ NK s.heap r) {Q : Bool → Shared → Prop} (q : Q false s) :
    wpAny (model P w) A (searchCouldBeSeen (.ref x.1) ys) Q E s := by
  unfold searchCouldBeSeen
  refine wpAny_bind (wpAny_forIn_list _ (fun l r s' => r.1 = none ∧ s' = s ∧ ∀ y ∈ l, ∃ r : Row, y = .ref r.1 ∧ NK s.heap r) _ (fun v l r s' st => ?_) (fun r s' st => ?_) _ _ ⟨rfl, rfl, hy⟩)
  · obtain ⟨_, rfl, al⟩ := st
    obtain ⟨y, rfl, ky⟩ := al v List.mem_cons_self
    have tl : ∀ u ∈ l, ∃ r : Row, u = .ref r.1 ∧ NK s'.heap r := fun u m => al u (List.mem_cons_of_mem _ m)
    dsimp only
    by_cases c : (x.1 == y.1 || (carriedByValue (.ref x.1) && carriedByValue (.ref y.1))) = true
    · exact wp_if_pos c (wpAny_pure ⟨rfl, rfl, tl⟩)
    · refine wp_if_neg c (wpAny_bind (quiet_key _ _ 8 _ hx.1 hx.2 _ _ _ ?_))
      simp only [Bool.not_true, Bool.false_eq_true, if_false]
      refine wpAny_bind (quiet_key _ _ 8 _ ky.1 ky.2 _ _ _ ?_)
      simp only [Bool.not_true, Bool.false_eq_true, if_false]
      refine wpAny_bind (noCls _ _ 8 _ hx.1 hx.2 _ _ _ ?_)
      simp only [Bool.false_eq_true, if_false]
      refine wpAny_bind (noCls _ _ 8 _ ky.1 ky.2 _ _ _ ?_)
      simp only [Bool.false_eq_true, if_false]
      exact wpAny_pure ⟨rfl, rfl, tl⟩
  · obtain ⟨r1, r2⟩ := r
    obtain ⟨c, rfl, _⟩ := st
    obtain rfl : r1 = none := c
    exact wpAny_pure q

/-- at a stands a set with these keys, in the order of its slots -/
structure Tab (w : World) (h : Heap) (a : Addr) (L : List Row) (es : Array (Int × Value)) (ep : Nat) (t : SetTable) : Prop where
  obj : ∃ o, h.get? a = some o ∧ o.ExactSet ∧ o.data = .set es ep t
  row : es.toList = ents w L
  tab : TabOk t (hs w L)
  uni : (L.map (·.2)).Nodup
  key : ∀ r ∈ L, NK h r
  led : w.params.followText "set-order" = true ∨ t.led = true
  room : L.length * 5 < t.mask * 3
  few : L.length < 64
theorem ents_len {L : List Row} {es : Array (Int × Value)} (e : es.toList = ents w L) : es.size = L.length := by
  rw [← Array.length_toList, e]
  simp [ents]
theorem ents_at {L : List Row} {es : Array (Int × Value)} (e : es.toList = ents w L) {i : Nat} {r : Row} (h : L[i]? = some r) : es[i]? = some (r.2.hash w, Value.ref r.1) := by
  rw [← Array.getElem?_toList, e, ents, List.getElem?_map, h]
  rfl
theorem fits_of {L : List Row} {t : SetTable} {n : Nat} (T : TabOk t (hs w L)) (e : n = L.length) (l : L.length ≤ t.mask) : t.fits n = true := by
  have z := T.sz
  rw [List.length_map] at z
  simp only [SetTable.fits, SetTable.fill, T.dm, Bool.and_eq_true, beq_iff_eq, decide_eq_true_eq]
  exact ⟨by omega, by show t.place.size + 0 ≤ t.mask; omega⟩
variable {a : Addr} {L : List Row} {es : Array (Int × Value)} {ep : Nat} {t : SetTable}
theorem Tab.fits (T : Tab w s.heap a L es ep t) : t.fits es.size = true := fits_of T.tab (ents_len T.row) (by have := T.room; omega)
theorem Tab.stays (T : Tab w s.heap a L es ep t) : ¬ t.gaveWay = true := by
  simp only [SetTable.gaveWay, mask_odd T.tab.mok]
  decide
theorem no_dummy (m : Nat) : ∀ (n : Nat) (p : SetTable.Probe), p.dummy = none → (nth m p n).dummy = none
  | 0, _, h => h
  | n + 1, p, h => no_dummy m n (adv m p) (by unfold adv; split <;> exact h)
/-- where on the walk the entry i stands -/
def Ahead (t : SetTable) (L : List Row) (k : NestedKey) (n : Int) (K c : Nat) : Prop :=
  ∀ (i : Nat) (r : Row), L[i]? = some r → r.2 = k → ∃ d, c ≤ d ∧ d < K ∧ t.place.toList[i]? = some (way t.mask n d)
theorem seek (T : Tab w s.heap a L es ep t) {x : Addr} {k : NestedKey} {n : Int} (en : n = k.hash w) (hx : NK s.heap (x, k)) (hu : A.units + 8 < cLine) {K : Nat} (kt : K < 10 * SetTable.turns t.mask)
    (free : way t.mask n K ∉ t.place.toList) (full : ∀ c, c < K → way t.mask n c ∈ t.place.toList) {Q : SetFound → Shared → Prop}
    (yes : k ∈ L.map (·.2) → Q (.there none) s) (no : k ∉ L.map (·.2) → Q (.free (way t.mask n K) false) s) :
    ∀ (f c : Nat) (st : Option SetTable.Probe), st.getD (t.probeStart n) = nth t.mask (go0 t.mask n) c → c ≤ K → K - c < f → Ahead t L k n K c → wpAny (model P w) A (setSearchFrom a (.ref x) n true f st) Q E s
  | 0, _, _, _, _, hf, _ => absurd hf (Nat.not_lt_zero _)
  | f + 1, c, st, at_, hc, hf, ah => by
    obtain ⟨o, ho, _, hd⟩ := T.obj
    have mv : ∀ q, nth t.mask (nth t.mask (go0 t.mask n) c) q = nth t.mask (go0 t.mask n) (c + q) := fun q => (nth_add _ _ _ _).symm
    have mj : ∀ q, (nth t.mask (nth t.mask (go0 t.mask n) c) q).j = way t.mask n (c + q) := fun q => by rw [mv]
    have hash_ : ∀ (i : Nat) (r : Row), L[i]? = some r → (es[i]?.map (·.1)).getD 0 = r.2.hash w := fun i r h => by rw [ents_at T.row h]; rfl
    have ans := go_spec t T.tab.ris T.tab.dm (fun i => (es[i]?.map (·.1)).getD 0) n (10 * SetTable.turns t.mask) (K - c) (nth t.mask (go0 t.mask n) c) (no_dummy _ _ _ rfl) (by omega)
      (fun q hq => by rw [mj]; exact full _ (by omega)) (by rw [mj, Nat.add_sub_cancel' hc]; exact free)
    rw [setSearchFrom_succ]
    refine wpAny_bind (wpAny_setState_of ho hd T.fits ?_)
    dsimp only
    refine wp_if_neg T.stays ?_
    try refine wpAny_bind (wpAny_pure ?_)
    rcases ans with ⟨q, i, hq, hi, hh, before, met⟩ | ⟨none_, met⟩
    · rw [show t.probe (fun i => (es[i]?.map (·.1)).getD 0) n (st.getD (t.probeStart n)) = some (.candidate (way t.mask n (c + q)) i (nth t.mask (go0 t.mask n) (c + (q + 1)))) by rw [at_, ← mj, ← mv]; exact met]
      dsimp only
      rw [mj] at hi
      obtain ⟨r, hr⟩ : ∃ r, L[i]? = some r := by
        have l1 := (List.getElem?_eq_some_iff.mp hi).1
        rw [Array.length_toList, T.tab.sz, List.length_map] at l1
        exact ⟨_, List.getElem?_eq_getElem l1⟩
      have rm := List.mem_of_getElem? hr
      have rk := T.key r rm
      have body : wpAny (model P w) A (searchRest a (.ref x) n true f es t (way t.mask n (c + q)) i (nth t.mask (go0 t.mask n) (c + (q + 1)))) Q E s := by
        unfold searchRest
        rw [ents_at T.row hr]
        dsimp only
        refine wpAny_bind (wpAny_holding ((nestedKind P w).eqBool hu rk hx (wpAny_bind (wpAny_setState_of ho hd T.fits ?_))))
        dsimp only
        by_cases eq : r.2 = k
        · exact wp_if_pos (by simp [eq]) (wpAny_pure (yes (List.mem_map.mpr ⟨r, rm, eq⟩)))
        refine wp_if_neg (by simp [eq]) ?_
        try refine wpAny_bind (wpAny_pure ?_)
        have live := slot_live T.tab.ris hi
        rw [sameMem]
        simp only [if_true, live, ents_at T.row hr]
        refine wpAny_bind (wpAny_isSame_ref_self (wpAny_bind (wpAny_pure ?_)))
        simp only [if_true]
        refine wp_if_neg (by simp [eq]) (seek T en hx hu kt free full yes no f (c + (q + 1)) _ rfl (by omega) (by omega) fun i2 r2 h2 e2 => ?_)
        obtain ⟨d, d1, d2, d3⟩ := ah i2 r2 h2 e2
        refine ⟨d, ?_, d2, d3⟩
        have hh2 := (hash_ i2 r2 h2).trans ((congrArg (NestedKey.hash w) e2).trans en.symm)
        rcases Nat.lt_trichotomy d (c + q) with z | z | z
        · exact absurd hh2 (before (d - c) i2 (by omega) (by rw [mj, Nat.add_sub_cancel' d1]; exact d3))
        · have l2 := slot_live T.tab.ris (z ▸ d3)
          rw [live] at l2
          injection l2 with l2
          rw [← l2, hr] at h2
          cases h2
          exact absurd e2 eq
        · omega
      by_cases hl : t.led = true
      · refine wp_if_neg (by simp [hl]) ?_
        try refine wpAny_bind (wpAny_pure ?_)
        exact body
      · refine wp_if_pos (by simp [hl]) (wpAny_bind (unseen hx (fun y hy => ?_) (wp_if_neg (by decide) ?_)))
        · obtain ⟨e, he, rfl⟩ := List.mem_map.mp hy
          have he1 : e ∈ es.toList := by simpa using (show e ∈ es ∧ e.1 = n by simpa using he).1
          rw [T.row] at he1
          obtain ⟨r2, m2, rfl⟩ := List.mem_map.mp he1
          exact ⟨r2, rfl, T.key r2 m2⟩
        · try refine wpAny_bind (wpAny_pure ?_)
          exact body
    · rw [show t.probe (fun i => (es[i]?.map (·.1)).getD 0) n (st.getD (t.probeStart n)) = some (.empty (way t.mask n K) none) by
        have e2 := mj (K - c)
        rw [Nat.add_sub_cancel' hc] at e2
        rw [at_, ← e2]
        exact met]
      dsimp only
      refine wpAny_pure (no fun hm => ?_)
      obtain ⟨r, rm, re⟩ := List.mem_map.mp hm
      obtain ⟨i, hi⟩ := List.mem_iff_getElem?.mp rm
      obtain ⟨d, d1, d2, d3⟩ := ah i r hi re
      exact none_ (d - c) i (by omega) (by rw [mj, Nat.add_sub_cancel' d1]; exact d3) ((hash_ i r hi).trans ((congrArg (NestedKey.hash w) re).trans en.symm))
theorem seek0 (T : Tab w s.heap a L es ep t) {x : Addr} {k : NestedKey} (hx : NK s.heap (x, k)) (hu : A.units + 8 < cLine) {Q : SetFound → Shared → Prop} (yes : k ∈ L.map (·.2) → Q (.there none) s)
    (no : ∀ K, k ∉ L.map (·.2) → way t.mask (k.hash w) K ∉ t.place.toList → (∀ c, c < K → way t.mask (k.hash w) c ∈ t.place.toList) → Q (.free (way t.mask (k.hash w) K) false) s) :
    wpAny (model P w) A (setSearch a (.ref x) (k.hash w) true) Q E s := by
  have rm := T.room
  obtain ⟨K, kt, free, full⟩ := T.tab.first (by rw [List.length_map]; omega) (k.hash w)
  have big : K < 100000 := by
    refine Nat.lt_of_lt_of_le kt ?_
    unfold SetTable.turns
    rcases T.tab.mok with e | e | e <;> rw [e] <;> omega
  unfold setSearch
  refine seek T rfl hx hu kt free full yes (fun h => no K h free full) 100000 0 none rfl (Nat.zero_le _) (by omega) fun i r hr e => ?_
  have hi : (hs w L)[i]? = some (k.hash w) := by rw [List.getElem?_map, hr, ← e]; rfl
  have il : i < t.place.toList.length := by
    rw [Array.length_toList, T.tab.sz]
    exact (List.getElem?_eq_some_iff.mp hi).1
  obtain ⟨d, d1, d2⟩ := T.tab.before free hi (List.getElem?_eq_getElem il)
  exact ⟨d, Nat.zero_le _, d1, by rw [d2]; exact List.getElem?_eq_getElem il⟩
end
end L2.Lp

set_option Elab.async false
set_option linter.all false
set_option maxRecDepth 100000
set_option maxHeartbeats 4000000
/-! Lp12: adding a nested tuple to a set; a table laid anew. -/
namespace L2.Lp
open PySem PySem.Spec PyProof.Rows L2
theorem cut_perm {α : Type} (L : List α) (p : Nat) (x : α) : (L.take p ++ x :: L.drop p).Perm (x :: L) := by
  have e := List.take_append_drop p L
  exact List.perm_middle.trans (by rw [e])
theorem all_range {α : Type} (L : List α) : (List.range L.length).filterMap (fun i => L[i]?) = L := by
  induction L with
  | nil => rfl
  | cons x L ih =>
    rw [List.length_cons, List.range_succ_eq_map, List.filterMap_cons_some (f := fun i => (x :: L)[i]?) (b := x) rfl, List.filterMap_map]
    exact congrArg (x :: ·) ih
section
variable {P : Program} {w : World} {A : Around} {E : Value → Shared → Prop} {s : Shared}
/-- the entries in another order -/
theorem reorder (w : World) {L : List Row} {es : Array (Int × Value)} (order : List Nat) (e : es.toList = ents w L) (p : order.Perm (List.range L.length)) :
    ∃ M : List Row, order.filterMap (fun i => es[i]?) = ents w M ∧ M.Perm L ∧ hs w M = order.map fun i => (es.map (·.1)).getD i 0 := by
  refine ⟨order.filterMap fun i => L[i]?, ?_, ?_, ?_⟩
  · rw [ents, List.map_filterMap]
    refine congrArg (fun f => List.filterMap f order) (funext fun i => ?_)
    rw [← Array.getElem?_toList, e, ents, List.getElem?_map]
  · exact (p.filterMap _).trans (by rw [all_range])
  · have all : ∀ i ∈ order, i < L.length := fun i h => List.mem_range.mp (p.mem_iff.mp h)
    clear p
    induction order with
    | nil => rfl
    | cons i l ih =>
      have hi := all i List.mem_cons_self
      rw [List.filterMap_cons_some (List.getElem?_eq_getElem hi), hs, List.map_cons, List.map_cons]
      congr 1
      · rw [Array.getD_eq_getD_getElem?, Array.getElem?_map, ents_at e (List.getElem?_eq_getElem hi)]
        rfl
      · exact ih fun j h => all j (List.mem_cons_of_mem _ h)
variable {a : Addr} {L : List Row} {es : Array (Int × Value)} {ep : Nat} {t : SetTable}
theorem relay {o : Obj} (ho : s.heap.get? a = some o) (hex : o.ExactSet) (hd : o.data = .set es ep t) (row : es.toList = ents w L) (sz : t.place.size = es.size) (dm : t.dummies = #[]) (le : es.size ≤ t.mask)
    (uni : (L.map (·.2)).Nodup) (key : ∀ r ∈ L, NK s.heap r) (led : w.params.followText "set-order" = true ∨ t.led = true) (few : L.length < 64) {want M : Nat}
    (hM : MaskOk M) (hw : SetTable.sizeAbove want = M + 1) (top : M ≤ 127) (room : L.length * 5 < M * 3) {Q : Unit → Shared → Prop}
    (q : ∀ h' L' es' ep' t', Heap.SameBut a s.heap h' → Tab w h' a L' es' ep' t' → L'.Perm L → Q () { s with heap := h' }) : wpAny (model P w) A (setRelay a want) Q E s := by
  have len := ents_len row
  have fit : t.fits es.size = true := by
    simp only [SetTable.fits, SetTable.fill, dm, Bool.and_eq_true, beq_iff_eq, decide_eq_true_eq]
    exact ⟨sz, by show t.place.size + 0 ≤ t.mask; omega⟩
  obtain ⟨t', order, er, perm, T, em, el, _, _⟩ := relaid_ok t (hs := es.map (·.1)) (wanted := want) (by rw [hw]; rfl) hM (by rw [Array.size_map]; omega)
  rw [Array.size_map, len] at perm
  obtain ⟨L2, r1, r2, r3⟩ := reorder w order.toList row perm
  have r1' : (order.filterMap (es[·]?)).toList = ents w L2 := by rw [Array.toList_filterMap]; exact r1
  have len2 := ents_len r1'
  rw [setRelay_eq]
  refine wpAny_bind (wpAny_setState_of ho hd fit ?_)
  dsimp only
  refine wp_if_neg (by rw [hw, sizeLine_eq]; omega) ?_
  try refine wpAny_bind (wpAny_pure ?_)
  rw [er]
  refine wpAny_bind (wp_if_neg (by rw [len2, len, r2.length_eq]; simp) ?_)
  try refine wpAny_bind (wpAny_pure ?_)
  refine wpAny_pure (wpAny_storeSet_of ho hd ?_ (by rw [len2, r2.length_eq, sizeLine_eq]; omega))
  have sb : Heap.SameBut a s.heap (s.heap.update a (Obj.putSet (order.filterMap (es[·]?)) t')) := Heap.SameBut.update ..
  exact q _ L2 _ (ep + 1) t' sb ⟨⟨_, store_at ho hd, ⟨hex.1, hex.2.1, hex.2.2⟩, rfl⟩, r1', r3 ▸ T, (r2.map _).nodup_iff.mpr uni, fun r m => nk_but (key r (r2.mem_iff.mp m)) ho hd sb, el ▸ led, by rw [r2.length_eq, em]; exact room,
    by rw [r2.length_eq]; exact few⟩ r2
theorem add1 (T : Tab w s.heap a L es ep t) {x : Addr} {k : NestedKey} (hx : NK s.heap (x, k)) (hu : A.units + 8 < cLine) (few : L.length + 1 < 64) {Q : Bool → Shared → Prop}
    (q : ∀ b h' L' es' ep' t', Heap.SameBut a s.heap h' → Tab w h' a L' es' ep' t' → (k ∈ L.map (·.2) ∧ L' = L ∨ k ∉ L.map (·.2) ∧ L'.Perm ((x, k) :: L)) → Q b { s with heap := h' }) :
    wpAny (model P w) A (setAddHashed a (.ref x) (k.hash w)) Q E s := by
  obtain ⟨o, ho, hex, hd⟩ := T.obj
  have len := ents_len T.row
  have rm := T.room
  have fit := T.fits
  unfold setAddHashed
  refine wpAny_holding ?_
  rw [show 100000 = 99999 + 1 from rfl, setAddHashedIn_succ]
  refine wpAny_bind (wpAny_setState_of ho hd fit ?_)
  dsimp only
  refine wp_if_neg (by simp [byScan, Value.scannable]) ?_
  try refine wpAny_bind (wpAny_pure ?_)
  refine wpAny_bind (seek0 T hx hu (fun m => wpAny_pure (q false s.heap L es ep t (Heap.SameBut.refl a s.heap) T (.inl ⟨m, rfl⟩))) fun K nm free full => ?_)
  dsimp only
  refine wpAny_bind (wpAny_setState_of ho hd fit ?_)
  dsimp only
  obtain ⟨p1, p2, p3, p4, p5, _, _, _, p9⟩ := T.tab.put free full
  generalize ej : way t.mask (k.hash w) K = j at p1 p2 p3 p4 p5 p9 ⊢
  generalize ep0 : t.put j = pt at p1 p3 p4 p5 p9 ⊢
  obtain ⟨t1, p⟩ := pt
  dsimp only at p1 p3 p4 p5 p9 ⊢
  subst p1
  generalize ecut : SetTable.below t.place j = p at p2 p3 ⊢
  have er : (SetTable.insertAt es p (k.hash w, Value.ref x)).toList = ents w (L.take p ++ (x, k) :: L.drop p) := by
    rw [SetTable.toList_insertAt, T.row]
    simp [ents, List.map_take, List.map_drop]
  have eh : hs w (L.take p ++ (x, k) :: L.drop p) = (hs w L).take p ++ k.hash w :: (hs w L).drop p := by simp [hs, List.map_take, List.map_drop]
  rw [← eh] at p3
  have pm := cut_perm L p (x, k)
  generalize SetTable.insertAt es p (k.hash w, Value.ref x) = es1 at er ⊢
  generalize L.take p ++ (x, k) :: L.drop p = L1 at er p3 pm
  have len1 : L1.length = L.length + 1 := pm.length_eq
  have len2 := ents_len er
  have uni : (L1.map (·.2)).Nodup := (pm.map _).nodup_iff.mpr (List.nodup_cons.mpr ⟨nm, T.uni⟩)
  -- whether the table is said to go by value does not matter here
  have go : ∀ t2 : SetTable, TabOk t2 (hs w L1) → t2.mask = t.mask → t2.led = t.led → t2.fill = (hs w L).length + 1 →
      wpAny (model P w) A (storeSet a es1 t2 >>= fun _ => (if (!false && t2.tooFull) = true then setRelay a (SetTable.grown (es.size + 1)) >>= fun _ => pure true else pure true)) Q E s := fun t2 T2 m2 l2 f2 => by
    refine wpAny_bind (wpAny_storeSet_of ho hd ?_ (by rw [len2, len1, sizeLine_eq]; omega))
    have sb : Heap.SameBut a s.heap (s.heap.update a (Obj.putSet es1 t2)) := Heap.SameBut.update ..
    have ho1 := store_at (es' := es1) (t' := t2) ho hd
    generalize s.heap.update a (Obj.putSet es1 t2) = h1 at sb ho1 ⊢
    have key : ∀ r ∈ L1, NK h1 r := fun r m => by
      rcases List.mem_cons.mp (pm.mem_iff.mp m) with e | m
      · exact e ▸ nk_but hx ho hd sb
      · exact nk_but (T.key r m) ho hd sb
    have led1 : w.params.followText "set-order" = true ∨ t2.led = true := by rw [l2]; exact T.led
    rw [List.length_map] at f2
    by_cases full : t2.tooFull = true
    · refine wp_if_pos (by simp [full]) ?_
      have cnt : t2.mask * 3 ≤ (L.length + 1) * 5 := by
        have z := full
        rw [SetTable.tooFull, decide_eq_true_eq, f2] at z
        exact z
      have z1 : t2.place.size = es1.size := by rw [T2.sz, List.length_map, len2]
      rw [len]
      have alt : (t.mask = 7 ∧ L.length = 4) ∨ (t.mask = 31 ∧ L.length = 18) := by
        rw [m2] at cnt
        rcases T.tab.mok with e | e | e <;> rw [e] at cnt rm <;> omega
      have rel : ∀ M, MaskOk M → SetTable.sizeAbove (SetTable.grown (L.length + 1)) = M + 1 → M ≤ 127 → (L.length + 1) * 5 < M * 3 →
          wpAny (model P w) A (setRelay a (SetTable.grown (L.length + 1)) >>= fun _ => pure true) Q E { s with heap := h1 } := fun M c1 c2 c3 c4 => by
        refine wpAny_bind (relay (s := { s with heap := h1 }) ho1 ⟨hex.1, hex.2.1, hex.2.2⟩ rfl er z1 T2.dm (by rw [len2, m2, len1]; omega) uni key led1 (by rw [len1]; exact few) c1 c2 c3 (by rw [len1]; exact c4) fun h2 L2 es2 ep2 t3 sb2 T3 pm2 => ?_)
        exact wpAny_pure (q true h2 L2 es2 ep2 t3 (sb.trans sb2) T3 (.inr ⟨nm, pm2.trans pm⟩))
      rcases alt with ⟨_, e⟩ | ⟨_, e⟩
      · exact rel 31 (.inr (.inl rfl)) (by rw [e]; exact size_20) (by omega) (by omega)
      · exact rel 127 (.inr (.inr rfl)) (by rw [e]; exact size_76) (by omega) (by omega)
    · refine wp_if_neg (by simp [full]) (wpAny_pure (q true h1 L1 es1 (ep + 1) t2 sb ⟨⟨_, ho1, ⟨hex.1, hex.2.1, hex.2.2⟩, rfl⟩, er, T2, uni, key, led1, ?_, by rw [len1]; exact few⟩ (.inr ⟨nm, pm⟩)))
      have z := full
      rw [SetTable.tooFull, decide_eq_true_eq, f2] at z
      rw [len1]
      omega
  obtain ⟨b, hb⟩ := hbv (P := P) (w := w) k (.ref x) 8 s hx.1 hx.2
  have fin : ∀ c : Bool, wpAny (model P w) A (storeSet a es1 (if c = true then t1 else { t1 with plain := false }) >>= fun _ => (if (!false && (if c = true then t1 else { t1 with plain := false }).tooFull) = true then setRelay a (SetTable.grown (es.size + 1)) >>= fun _ => pure true else pure true)) Q E s := fun c => by
    cases c
    · refine go _ ⟨p3.ris, p3.dm, p3.sz, p3.mok, p3.bd, p3.reach⟩ p4 p5 ?_
      exact p9
    · exact go t1 p3 p4 p5 p9
  by_cases pl : t1.plain = true
  · exact wp_if_pos pl (wpAny_bind (hb _ _ _ (fin b)))
  · exact wp_if_neg pl (wpAny_bind (wpAny_pure (fin true)))
end
end L2.Lp

set_option Elab.async false
set_option linter.all false
set_option maxRecDepth 100000
set_option maxHeartbeats 4000000
/-! Lp13: set(x), x a list or a tuple, whatever the set keeps of its values. -/
namespace L2.Lp
open PySem PySem.Spec PyProof.Rows L2
/-- an empty set, as set(..) begins -/
abbrev bare (w : World) : Obj := { cls := .type "set", dict := none, data := .set #[] 0 (.fresh 0 0 (!w.params.followText "set-order")) }
/-- what is told of the set at S after i of the values vs, all of them standing in h0 -/
structure Fills (P : Program) (w : World) (h0 : Heap) (S : Addr) (vs : List Value) (J : Nat → Heap → Prop) : Prop where
  stay : ∀ {i : Nat} {h h' : Heap}, J i h → (∀ o, h.get? S = some o → h'.get? S = some o) → (∀ b o, h0.get? b = some o → h'.get? b = some o) → J i h'
  new : ∀ {h : Heap}, h.get? S = some (bare w) → J 0 h
  put : ∀ {A : Around} {E : Value → Shared → Prop} {s : Shared} {i : Nat} {v : Value} {Q : Bool → Shared → Prop}, A.units + 9 < cLine → vs[i]? = some v → (∀ b o, h0.get? b = some o → s.heap.get? b = some o) → J i s.heap →
    (∀ b h' tk, Heap.SameBut S s.heap h' → J (i + 1) h' → Q b { s with heap := h', toks := tk }) → wpAny (model P w) A (setAdd S v) Q E s
section
variable {P : Program} {w : World} {A : Around} {E : Value → Shared → Prop} {s : Shared}
theorem fill_loop {I : Addr} {fp wr : List Addr} {n : Nat} {V : Nat → Value → Prop} {St : Nat → Heap → Prop} {R : Result → Shared → Prop} {h0 : Heap} {S : Addr} {vs : List Value} {J : Nat → Heap → Prop}
    (W : Walks P w A.in1 I fp wr n V St) (F0 : Fills P w h0 S vs J) (hV : ∀ i v, V i v → vs[i]? = some v) (hS : S ∉ fp) (hS0 : h0.get? S = none) (hw : ∀ b ∈ wr, h0.get? b = none) (hu : A.in1.units + 9 < cLine) :
    ∀ (k i : Nat) (s : Shared), n - i = k → i ≤ n → St i s.heap → J i s.heap → (∀ b o, h0.get? b = some o → s.heap.get? b = some o) →
      (∀ h' tk, J n h' → (∀ b o, h0.get? b = some o → h'.get? b = some o) → R (.ok (.ret .none)) { s with heap := h', toks := tk }) →
      codeAny (model P w) A (.builtin "set.update.loop" ⟨[.ref S, .ref I], []⟩) R s := by
  have nS : S ∉ wr := fun m => hS (W.sub _ m)
  have old : ∀ {h h' : Heap}, (∀ b o, b ∉ wr → h.get? b = some o → h'.get? b = some o) → (∀ b o, h0.get? b = some o → h.get? b = some o) → ∀ b o, h0.get? b = some o → h'.get? b = some o := fun k1 k2 b o e =>
    k1 b o (fun m => by rw [hw b m] at e; cases e) (k2 b o e)
  intro k
  induction k with
  | zero =>
    intro i s hk hi st j kp fin
    obtain rfl : i = n := by omega
    refine codeAny_builtin F.entry_set_update_loop ?_
    rw [Around.under_plainId F.plain_set_update_loop _]
    refine wpAny_bind (W.done s _ _ st fun h' tk m => ?_)
    exact wpAny_pure (fin h' tk (F0.stay j (fun o e => m S o nS e) (old m kp)) (old m kp))
  | succ k ih =>
    intro i s hk hi st j kp fin
    have lt : i < n := by omega
    refine codeAny_builtin F.entry_set_update_loop ?_
    rw [Around.under_plainId F.plain_set_update_loop _]
    refine wpAny_bind (W.item i s _ _ lt st fun v h1 t1 hv st1 m => ?_)
    have kp1 := old m kp
    refine wpAny_bind (wpAny_holding (F0.put (s := { s with heap := h1, toks := t1 }) hu (hV i v hv) kp1 (F0.stay j (fun o e => m S o nS e) kp1) fun b h2 t2 sb j2 => ?_))
    have kp2 : ∀ b o, h0.get? b = some o → h2.get? b = some o := fun b o e => (sb.2 b (fun z => by rw [z, hS0] at e; cases e)).trans (kp1 b o e)
    refine wpAny_pure ⟨plainId_quiet F.plain_set_update_loop _, ih (i + 1) _ (by omega) lt (W.frame _ _ _ st1 fun b hb o e => ?_) j2 kp2 fin⟩
    exact (sb.2 b fun z => hS (by rw [← z]; exact hb)).trans e
/-- a list or a tuple with these items -/
def SeqAt (h : Heap) (l : Addr) (its : Array Value) : Prop := h.IsList l its ∨ h.IsTuple l its
theorem set_call {l : Addr} {its : Array Value} {Q : Value → Shared → Prop} {J : Nat → Heap → Prop} (hh : A.handled = none) (hl : SeqAt s.heap l its) (F0 : Fills P w s.heap s.heap.objs.size its.toList J) (hu : A.units + 20 < cLine)
    (q : ∀ (h' : Heap) (tk : Nat), J its.size h' → (∀ b o, s.heap.get? b = some o → h'.get? b = some o) → Q (.ref s.heap.objs.size) { s with heap := h', toks := tk }) : wpAny (model P w) A (call (.type "set") [.ref l]) Q E s := by
  obtain ⟨c, tl, hmro⟩ := F.called_set.mro
  have hmade := F.called_set.made
  have hsub := F.called_set.sub
  have h1 := F.called_set.notType
  have h2 := F.called_set.canCreate
  have hct := F.typeCall_set_1 (.ref l)
  refine wpAny_call (codeAny_of_tree (wpAny_pure ⟨Code.quiet_builtin _ (by decide +kernel), codeAny_builtin F.entry_type_call ?_⟩))
  rw [Around.under_plain (weight_type_call_type "set" [.ref l] []) rfl]
  repeat (any_goals (first | assumption | wp_step))
  have none_ : ∀ b, s.heap.objs.size ≤ b → s.heap.get? b = none := fun b hb => by
    cases z : s.heap.get? b with
    | none => rfl
    | some o => exact absurd (Heap.lt_size z) (Nat.not_lt_of_le hb)
  have hS : (s.heap.push (bare w)).get? s.heap.objs.size = some (bare w) := Heap.get?_push_size _ rfl
  refine codeAny_mono (code_set_led1 (.ref l) (E := E) (Q₁ := fun o z => o = .ref s.heap.objs.size ∧ z = { s with heap := s.heap.push (bare w) }) ⟨rfl, rfl⟩) fun r z hr => ?_
  rcases r with e | fl
  · exact hr
  cases fl with
  | ret o => ?_
  | _ => exact hr.elim
  obtain ⟨rfl, rfl⟩ := hr
  have hT : Shared.TypeIs { s with heap := s.heap.push (bare w) } (.ref s.heap.objs.size) "set" := ⟨_, hS, rfl⟩
  have hli := F.called_set.init.lookup
  have hbi := F.called_set.init.bind (.ref s.heap.objs.size)
  repeat (any_goals (first | assumption | wp_step))
  refine codeAny_mono (codeAny_call_builtin (R := wants (fun r z => r = .none ∧ ∃ h' tk, z = { s with heap := h', toks := tk } ∧ J its.size h' ∧ ∀ b o, s.heap.get? b = some o → h'.get? b = some o) E) F.called_set.init.plain F.entry_set_init (check_set_init_1 hT ?_)) fun r z hr => ?_
  · have hz : (s.heap.push (bare w)).objs.size = s.heap.objs.size + 1 := Heap.size_push ..
    -- the walk over the values, whichever iterator it is
    have walk : ∀ (io : Obj) (St : Nat → Heap → Prop), io.isFreed = false → l < s.heap.objs.size → Walks P w A.in1.in1.in1 s.heap.objs.size.succ [s.heap.objs.size.succ, l] [s.heap.objs.size.succ] its.size (fun i v => its[i]? = some v) St →
        St 0 ((s.heap.push (bare w)).push io) → ∀ R : Result → Shared → Prop, (∀ h' tk, J its.size h' → (∀ b o, s.heap.get? b = some o → h'.get? b = some o) → R (.ok (.ret .none)) { s with heap := h', toks := tk }) →
        codeAny (model P w) A.in1.in1 (.builtin "set.update.loop" ⟨[.ref s.heap.objs.size, .ref s.heap.objs.size.succ], []⟩) R { s with heap := (s.heap.push (bare w)).push io } := fun io St fr lt W st R fin => by
      have hS2 : ((s.heap.push (bare w)).push io).get? s.heap.objs.size = some (bare w) := Heap.get?_push_of_some _ hS
      refine fill_loop W F0 (fun i v h => by rw [Array.getElem?_toList]; exact h) ?_ (none_ _ (Nat.le_refl _)) (fun b hb => none_ b (by rw [List.mem_singleton.mp hb]; exact Nat.le_succ _)) (by simp only [Around.in1_units]; omega) (its.size - 0) 0 _ rfl (Nat.zero_le _) st (F0.new hS2) (fun b o e => Heap.get?_push_of_some _ (Heap.get?_push_of_some _ e)) fin
      simp only [List.mem_cons, List.mem_singleton, List.not_mem_nil, or_false, not_or]
      exact ⟨Nat.ne_of_lt (Nat.lt_succ_self _), Nat.ne_of_gt lt⟩
    have ne : (hl' : l < s.heap.objs.size) → l ≠ s.heap.objs.size.succ := fun h => Nat.ne_of_lt (Nat.lt_succ_of_lt h)
    have h3 : A.in1.in1.in1.handled = none := by simp [hh]
    have gi : ∀ io : Obj, io.isFreed = false → ((s.heap.push (bare w)).push io).get? s.heap.objs.size.succ = some io := fun io f => by
      have e := Heap.get?_push_size (s.heap.push (bare w)) f
      rw [hz] at e
      exact e
    -- the same steps for each of the two types; how the walk begins is theirs
    have one : ∀ (T : String) (d : Option Addr) (sl : Array (Option Value)) (n : Nat), s.heap.get? l = some { cls := .type T, dict := d, data := .seq its n, slots := sl } →
        isSubtype (.type T) (.type "set") = pure false → isSubtype (.type T) (.type "frozenset") = pure false → (Value.type T == Value.type "dict") = false →
        (∀ (A' : Around) (Q' : Value → Shared → Prop), A'.handled = none → (∀ (io : Obj) (St : Nat → Heap → Prop), io.isFreed = false → (∀ A'' : Around, A''.handled = none → Walks P w A'' s.heap.objs.size.succ [s.heap.objs.size.succ, l] [s.heap.objs.size.succ] its.size (fun i v => its[i]? = some v) St) →
            St 0 ((s.heap.push (bare w)).push io) → Q' (.ref s.heap.objs.size.succ) { s with heap := (s.heap.push (bare w)).push io }) → wpAny (model P w) A' (pyIter (.ref l)) Q' E { s with heap := s.heap.push (bare w) }) →
        wpAny (model P w) A.in1.in1 (Builtin.«set.__init__» ⟨[.ref s.heap.objs.size, .ref l], []⟩) (fun f z => f = .done (.ret Value.none) ∧ ∃ h' tk, z = { s with heap := h', toks := tk } ∧ J its.size h' ∧ ∀ b o, s.heap.get? b = some o → h'.get? b = some o) E { s with heap := s.heap.push (bare w) } :=
      fun T d sl n hol i1 i2 i3 it => by
        have hol' := Heap.get?_push_of_some (bare w) hol
        unfold Builtin.«set.__init__» noKeywords Builtin.Frozenset.updateFrom
        generalize hPI : pyIter = PI
        wp_walk
        subst hPI
        refine it _ _ (by simp [hh]) fun io St f W st => wpAny_bind (wpAny_runValue (walk io St f (Heap.lt_size hol) (W _ h3) st _ fun h' tk j k => ?_))
        exact wpAny_pure (wpAny_pure ⟨rfl, h', tk, rfl, j, k⟩)
    have both : wpAny (model P w) A.in1.in1 (Builtin.«set.__init__» ⟨[.ref s.heap.objs.size, .ref l], []⟩) (fun f z => f = .done (.ret Value.none) ∧ ∃ h' tk, z = { s with heap := h', toks := tk } ∧ J its.size h' ∧ ∀ b o, s.heap.get? b = some o → h'.get? b = some o) E { s with heap := s.heap.push (bare w) } := by
      rcases hl with hl | hl <;> obtain ⟨⟨ocls, odict, odata, oslots⟩, hol, hcl, nl, hdl⟩ := hl <;> simp only at hcl hdl <;> subst hcl <;> subst hdl
      · refine one "list" odict oslots nl hol F.sub_list_set F.sub_list_frozenset (by decide) fun A' Q' hA q' => ?_
        have at_ : (s.heap.push (bare w)).IsList l its := ⟨_, Heap.get?_push_of_some _ hol, rfl, nl, rfl⟩
        refine wpAny_pyIter_list at_ ?_
        rw [hz]
        exact q' _ _ rfl (fun A'' hA'' => Walks.list hA'' s.heap.objs.size.succ l (ne (Heap.lt_size hol)) its) ⟨⟨_, gi _ rfl, rfl, rfl⟩, at_.push _⟩
      · refine one "tuple" odict oslots nl hol F.sub_tuple_set F.sub_tuple_frozenset (by decide) fun A' Q' hA q' => ?_
        have at_ : (s.heap.push (bare w)).IsTuple l its := ⟨_, Heap.get?_push_of_some _ hol, rfl, nl, rfl⟩
        refine wpAny_pyIter_tuple at_ ?_
        rw [hz]
        exact q' _ _ rfl (fun A'' hA'' => Walks.tuple hA'' s.heap.objs.size.succ l (ne (Heap.lt_size hol)) its) ⟨⟨_, gi _ rfl, rfl, rfl⟩, at_.push _⟩
    refine wpAny_mono both (fun f z hf => ?_) fun _ _ h => h
    obtain ⟨rfl, h', tk, rfl, j, k⟩ := hf
    exact ⟨rfl, h', tk, rfl, j, k⟩
  · rcases r with e | fl
    · exact hr
    cases fl with
    | ret r => ?_
    | _ => exact hr.elim
    obtain ⟨rfl, h', tk, rfl, j, k⟩ := hr
    repeat (any_goals (first | assumption | wp_step))
    exact q h' tk j k
end
end L2.Lp

set_option Elab.async false
set_option linter.all false
set_option maxRecDepth 100000
set_option maxHeartbeats 4000000
/-! Lp14: what set(..) keeps: whole numbers and texts. -/
namespace L2.Lp
open PySem PySem.Spec PySem.W L2
theorem each_perm {α β : Type} {R : α → β → Prop} {l1 l2 : List α} (p : l1.Perm l2) : ∀ {bs : List β}, EachIs R l2 bs → ∃ bs', bs'.Perm bs ∧ EachIs R l1 bs' := by
  induction p with
  | nil => exact fun h => ⟨_, .rfl, h⟩
  | cons x _ ih =>
    intro bs h
    cases h with
    | cons a t =>
      obtain ⟨c, p, e⟩ := ih t
      exact ⟨_, p.cons _, .cons a e⟩
  | swap x y l =>
    intro bs h
    cases h with
    | cons a t =>
      cases t with
      | cons b u => exact ⟨_, .swap _ _ _, .cons b (.cons a u)⟩
  | trans _ _ i1 i2 =>
    intro bs h
    obtain ⟨c, p, e⟩ := i2 h
    obtain ⟨d, p2, e2⟩ := i1 e
    exact ⟨d, p2.trans p, e2⟩
theorem each_app {α β : Type} {R : α → β → Prop} : ∀ {l1 l2 : List α} {b1 b2 : List β}, EachIs R l1 b1 → EachIs R l2 b2 → EachIs R (l1 ++ l2) (b1 ++ b2)
  | _, _, _, _, .nil, h => h
  | _, _, _, _, .cons a t, h => .cons a (each_app t h)
theorem each_mem {α β : Type} {R : α → β → Prop} {x : α} : ∀ {l : List α} {bs : List β}, EachIs R l bs → x ∈ l → ∃ b ∈ bs, R x b
  | _, _, .nil, m => by cases m
  | _, _, .cons a t, m => by
    rcases List.mem_cons.mp m with e | m
    · exact ⟨_, List.mem_cons_self, e ▸ a⟩
    · obtain ⟨b, hb, r⟩ := each_mem t m
      exact ⟨b, List.mem_cons_of_mem _ hb, r⟩
theorem each_mem2 {α β : Type} {R : α → β → Prop} {b : β} : ∀ {l : List α} {bs : List β}, EachIs R l bs → b ∈ bs → ∃ x ∈ l, R x b
  | _, _, .nil, m => by cases m
  | _, _, .cons a t, m => by
    rcases List.mem_cons.mp m with e | m
    · exact ⟨_, List.mem_cons_self, e ▸ a⟩
    · obtain ⟨x, hx, r⟩ := each_mem2 t m
      exact ⟨x, List.mem_cons_of_mem _ hx, r⟩
theorem each_get {α β : Type} {R : α → β → Prop} : ∀ {l : List α} {bs : List β} {i : Nat} {x : α}, EachIs R l bs → l[i]? = some x → ∃ b, bs[i]? = some b ∧ R x b
  | _, _, 0, _, .cons a _, h => by
    cases h
    exact ⟨_, rfl, a⟩
  | _, _, i + 1, _, .cons _ t, h => by
    obtain ⟨b, e, r⟩ := each_get (i := i) t (by simpa using h)
    exact ⟨b, by simpa using e, r⟩
abbrev VB := V × PyData
def RV (v : Value) (b : VB) : Prop := RelV b.1 v
/-- of the first i of bs, one of each key is kept -/
structure Kept {κ : Type} (key : PyData → κ) (bs : List VB) (i : Nat) (ks : List VB) : Prop where
  sub : ∀ b ∈ ks, b ∈ bs.take i
  all : ∀ b ∈ bs.take i, ∃ c ∈ ks, key c.2 = key b.2
  uni : (ks.map fun b => key b.2).Nodup
  len : ks.length ≤ i
section
variable {κ : Type} {key : PyData → κ} {bs ks : List VB} {i : Nat} {b : VB}
theorem Kept.zero : Kept key bs 0 [] := ⟨fun _ m => (nomatch m), fun _ m => (by simp at m), List.nodup_nil, Nat.le_refl _⟩
theorem take1 (h : bs[i]? = some b) : bs.take (i + 1) = bs.take i ++ [b] := by rw [List.take_succ, h]; rfl
theorem Kept.met (k : Kept key bs i ks) (h : bs[i]? = some b) (m : ∃ c ∈ ks, key c.2 = key b.2) : Kept key bs (i + 1) ks where
  sub c m := by rw [take1 h]; exact List.mem_append_left _ (k.sub c m)
  all c mc := by
    rw [take1 h] at mc
    rcases List.mem_append.mp mc with mc | mc
    · exact k.all c mc
    · rw [List.mem_singleton.mp mc]
      exact m
  uni := k.uni
  len := Nat.le_succ_of_le k.len
theorem Kept.add (k : Kept key bs i ks) (h : bs[i]? = some b) (no : ¬ ∃ c ∈ ks, key c.2 = key b.2) {ks' : List VB} (p : ks'.Perm (b :: ks)) : Kept key bs (i + 1) ks' where
  sub c m := by
    rw [take1 h]
    rcases List.mem_cons.mp (p.mem_iff.mp m) with e | m
    · exact List.mem_append_right _ (List.mem_singleton.mpr e)
    · exact List.mem_append_left _ (k.sub c m)
  all c mc := by
    rw [take1 h] at mc
    rcases List.mem_append.mp mc with mc | mc
    · obtain ⟨d, md, e⟩ := k.all c mc
      exact ⟨d, p.mem_iff.mpr (List.mem_cons_of_mem _ md), e⟩
    · rw [List.mem_singleton.mp mc]
      exact ⟨b, p.mem_iff.mpr List.mem_cons_self, rfl⟩
  uni := by
    refine (p.map _).nodup_iff.mpr (List.nodup_cons.mpr ⟨fun m => no ?_, k.uni⟩)
    obtain ⟨c, mc, e⟩ := List.mem_map.mp m
    exact ⟨c, mc, e⟩
  len := by
    rw [p.length_eq]
    exact Nat.succ_le_succ k.len
theorem Kept.perm (k : Kept key bs i ks) {ks' : List VB} (p : ks'.Perm ks) : Kept key bs i ks' where
  sub c m := k.sub c (p.mem_iff.mp m)
  all c mc := let ⟨d, md, e⟩ := k.all c mc; ⟨d, p.mem_iff.mpr md, e⟩
  uni := (p.map _).nodup_iff.mpr k.uni
  len := by
    rw [p.length_eq]
    exact k.len
end
/-- at S stands a set with the values of bs, in some order -/
structure SetD (w : World) (h : Heap) (S : Addr) (bs : List VB) (es : Array (Int × Value)) (ep : Nat) (t : SetTable) : Prop where
  obj : ∃ o, h.get? S = some o ∧ o.ExactSet ∧ o.data = .set es ep t
  ent : EachIs RV (es.toList.map (·.2)) bs
  few : es.size < scanBound
  fit : t.fits es.size = true
  ris : Ris t.place.toList
  led : w.params.followText "set-order" = true ∨ t.led = true
/-- a whole number's or a text's own key -/
def skey : PyData → Option Key
  | .int i => some (.inl i)
  | .str x => some (.inr x)
  | _ => none
section
variable {P : Program} {w : World}
theorem skey_is {v : Value} {x : V} {d : PyData} {K : Frag} {H : Hp} {k : Key} (q : Dq K H x d) (r : RelV x v) (e : skey d = some k) : (mixKind P w).is k v = true ∧ v.scannable = true := by
  cases q with
  | int i =>
    obtain ⟨t, rfl⟩ := r
    cases e
    exact ⟨mixKind_int P w i t, rfl⟩
  | str y =>
    obtain ⟨t, rfl⟩ := r
    cases e
    exact ⟨mixKind_str P w y t, rfl⟩
  | _ => cases e
/-- ints and texts -/
structure Plain (P : Program) (w : World) (bs : List VB) : Prop where
  is : ∀ b ∈ bs, ∃ k, skey b.2 = some k ∧ ∀ v, RV v b → (mixKind P w).is k v = true ∧ v.scannable = true
variable {A : Around} {E : Value → Shared → Prop} {s : Shared} {S : Addr} {ks bs : List VB} {es : Array (Int × Value)} {ep : Nat} {t : SetTable}
theorem scan_tail {g : Bool → Sem Unit} (hg : ∀ (b : Bool) (z : Shared) (Q : Unit → Shared → Prop), Q () z → wpAny (model P w) A (g b) Q E z) {o : Obj} (ho : s.heap.get? S = some o) (hex : o.ExactSet) (hd : o.data = .set es ep t)
    {es1 : Array (Int × Value)} {t1 : SetTable} (ent : EachIs RV (es1.toList.map (·.2)) ks) (els : ElemsOf (mixKind P w) es1.toList) (few : es1.size < scanBound) (fit : t1.fits es1.size = true) (ris : Ris t1.place.toList) (led : w.params.followText "set-order" = true ∨ t1.led = true)
    {wd : Bool} {R : Option Bool → Shared → Prop} (q : ∀ h' ks' es' ep' t', Heap.SameBut S s.heap h' → SetD w h' S ks' es' ep' t' → ElemsOf (mixKind P w) es'.toList → ks'.Perm ks → R (some true) { s with heap := h' }) :
    wpAny (model P w) A (storeSet S es1 t1 >>= fun _ => if (!wd && t1.tooFull) = true then g (relayAll t1 es1 (SetTable.grown es1.size)).2.2 >>= fun _ => storeSet S (relayAll t1 es1 (SetTable.grown es1.size)).1 (relayAll t1 es1 (SetTable.grown es1.size)).2.1 >>= fun _ => pure (some true) else pure (some true)) R E s := by
  have at1 := store_at (es' := es1) (t' := t1) ho hd
  have but1 := Heap.SameBut.update s.heap S (Obj.putSet es1 t1)
  refine wpAny_bind (wpAny_storeSet_of ho hd ?_ (fits_of_scanBound few))
  split
  · have p := relayAll_perm t1 es1 (SetTable.grown es1.size)
    have f := relayAll_fits t1 es1 (SetTable.grown es1.size)
    have r := relayAll_ris t1 es1 (SetTable.grown es1.size)
    have l := relayAll_led t1 es1 (SetTable.grown es1.size)
    generalize relayAll t1 es1 (SetTable.grown es1.size) = Z at p f r l ⊢
    obtain ⟨es2, t2, gave⟩ := Z
    dsimp only at p f r l ⊢
    have sz : es2.size = es1.size := by simpa using p.length_eq
    obtain ⟨ks2, p2, e2⟩ := each_perm (p.map (·.2)) ent
    refine wpAny_bind (hg _ _ _ (wpAny_bind (wpAny_storeSet_of at1 rfl (wpAny_pure ?_) (fits_of_scanBound (sz ▸ few)))))
    exact q _ ks2 es2 _ t2 (but1.trans (Heap.SameBut.update _ S _)) ⟨⟨_, store_at at1 rfl, hex, rfl⟩, e2, sz ▸ few, f, r, l ▸ led⟩ (fun e m => els e (p.mem_iff.mp m)) p2
  · exact wpAny_pure (q _ ks es1 _ t1 but1 ⟨⟨_, at1, hex, rfl⟩, ent, few, fit, ris, led⟩ els .rfl)
/-- the set of ints and texts after i of bs -/
def ScanJ (P : Program) (w : World) (S : Addr) (bs : List VB) (i : Nat) (h : Heap) : Prop := ∃ ks es ep t, SetD w h S ks es ep t ∧ ElemsOf (mixKind P w) es.toList ∧ Kept skey bs i ks
theorem key_inj {k k' : Key} {v : Value} (a : (mixKind P w).is k v = true) (b : (mixKind P w).is k' v = true) : k = k' := (mixKind P w).inj v k k' a b
theorem scan_fills {h0 : Heap} {vs : List Value} (few : bs.length < scanBound) (e0 : EachIs RV vs bs) (pl : Plain P w bs) : Fills P w h0 S vs (ScanJ P w S bs) where
  stay := by
    rintro i h h' ⟨ks, es, ep, t, d, el, k⟩ k1 _
    obtain ⟨o, ho, r⟩ := d.obj
    exact ⟨ks, es, ep, t, ⟨⟨o, k1 o ho, r⟩, d.ent, d.few, d.fit, d.ris, d.led⟩, el, k⟩
  new := by
    intro h e
    refine ⟨[], #[], 0, _, ⟨⟨_, e, ⟨rfl, rfl, rfl⟩, rfl⟩, .nil, by decide, rfl, List.Pairwise.nil, ?_⟩, fun e m => by simp at m, Kept.zero⟩
    show _ ∨ (!w.params.followText "set-order") = true
    cases w.params.followText "set-order"
    · exact .inr rfl
    · exact .inl rfl
  put := by
    rintro A E s i v Q hu hv _ ⟨ks, es, ep, t, d, el, kp⟩ q
    obtain ⟨b, hb, rb⟩ := each_get e0 hv
    obtain ⟨k, ek, isb⟩ := pl.is b (List.mem_of_getElem? hb)
    obtain ⟨isk, sc⟩ := isb v rb
    obtain ⟨o, ho, hex, hd⟩ := d.obj
    have mem_key : ∀ c ∈ ks, c ∈ bs := fun c m => List.mem_of_mem_take (kp.sub c m)
    unfold setAdd
    refine wpAny_holding (wpAny_bind ((mixKind P w).pyHash isk ?_))
    unfold setAddHashed setAddHashedIn
    refine wpAny_holding (wpAny_bind (wpAny_setState_of (s := { s with toks := s.toks + 1 }) ho hd d.fit ?_))
    dsimp only
    rw [byScan_of sc d.few el]
    simp only [↓reduceIte]
    unfold setAddByScan
    refine wpAny_bind (wpAny_bind (wpAny_rule (wpAny_bind (wpAny_setScan_of (s := { s with toks := s.toks + 1 }) isk ho hd d.fit el ?_))))
    -- whether such a key is there already
    have there : (∃ e ∈ es.toList, (mixKind P w).is k e.2 = true) ↔ ∃ c ∈ ks, skey c.2 = skey b.2 := by
      constructor
      · rintro ⟨e, me, ie⟩
        obtain ⟨c, mc, rc⟩ := each_mem d.ent (List.mem_map.mpr ⟨e, me, rfl⟩)
        obtain ⟨k2, e2, i2⟩ := pl.is c (mem_key c mc)
        exact ⟨c, mc, by rw [e2, ek, key_inj (i2 _ rc).1 ie]⟩
      · rintro ⟨c, mc, ec⟩
        obtain ⟨x, mx, rx⟩ := each_mem2 d.ent mc
        obtain ⟨e, me, rfl⟩ := List.mem_map.mp mx
        obtain ⟨k2, e2, i2⟩ := pl.is c (mem_key c mc)
        rw [ek, e2] at ec
        cases ec
        exact ⟨e, me, (i2 _ rx).1⟩
    have gw : ∀ (b : Bool) {z : Shared} {Q' : Unit → Shared → Prop}, Q' () z → wpAny (model P w) A (match b with | true => rule "set.scan.the-table-gave-way" | false => pure ()) Q' E z := fun b z Q' h => by
      cases b
      · exact wpAny_pure h
      · exact wpAny_rule h
    cases hf : List.findIdx? (fun e => (mixKind P w).is k e.2) es.toList with
    | some j =>
      dsimp only
      obtain ⟨hj, pj, _⟩ := List.findIdx?_eq_some_iff_getElem.mp hf
      have m := there.mp ⟨es.toList[j], List.getElem_mem hj, pj⟩
      exact wpAny_pure (wpAny_pure (q _ s.heap _ (Heap.SameBut.refl S s.heap) ⟨ks, es, ep, t, d, el, kp.met hb m⟩))
    | none =>
      dsimp only
      have no : ¬ ∃ c ∈ ks, skey c.2 = skey b.2 := fun m => by
        obtain ⟨e, me, ie⟩ := there.mpr m
        have z := List.findIdx?_eq_none_iff.mp hf e me
        rw [ie] at z
        cases z
      have p := layNew_perm t es ((mixKind P w).hash k) v
      have f1 := layNew_fits t es ((mixKind P w).hash k) v
      have r1 := layNew_ris t es ((mixKind P w).hash k) v d.ris
      have l1 := layNew_led t es ((mixKind P w).hash k) v
      generalize layNew t es ((mixKind P w).hash k) v = Z at p f1 r1 l1 ⊢
      obtain ⟨es1, t1, wd, gave⟩ := Z
      dsimp only at p f1 r1 l1 ⊢
      rw [Array.toList_push] at p
      obtain ⟨ks1, p1, e1⟩ := each_perm (p.map (·.2)) (by rw [List.map_append]; exact each_app d.ent (.cons rb .nil))
      have p2 : ks1.Perm (b :: ks) := p1.trans (List.perm_append_singleton _ _)
      have el1 : ElemsOf (mixKind P w) es1.toList := fun e m => by
        rcases List.mem_append.mp (p.mem_iff.mp m) with m | m
        · exact el e m
        · rw [List.mem_singleton.mp m]
          exact ⟨⟨k, isk, rfl⟩, sc⟩
      have few1 : es1.size < scanBound := by
        have z := kp.len
        have z2 : i < bs.length := (List.getElem?_eq_some_iff.mp hb).1
        have z3 : es.size = ks.length := by
          have := d.ent.length
          simpa using this
        have z4 : es1.size = es.size + 1 := by simpa using p.length_eq
        omega
      have led1 : w.params.followText "set-order" = true ∨ t1.led = true := l1 ▸ d.led
      have fin : ∀ h' ks' es' ep' t', Heap.SameBut S s.heap h' → SetD w h' S ks' es' ep' t' → ElemsOf (mixKind P w) es'.toList → ks'.Perm ks1 → Q true { s with heap := h', toks := s.toks + 1 } := fun h' ks' es' ep' t' sb d' el' p' =>
        q true h' _ sb ⟨ks', es', ep', t', d', el', kp.add hb no (p'.trans p2)⟩
      refine wpAny_bind (gw _ ?_)
      split
      · refine wpAny_bind ?_
        rw [hashByValue_scannable 8 sc]
        refine wpAny_pure (scan_tail (s := { s with toks := s.toks + 1 }) (fun b z Q' h => ?_) ho hex hd e1 el1 few1 ?_ ?_ ?_ fun h' ks' es' ep' t' sb d' el' p' => wpAny_pure (fin h' ks' es' ep' t' sb d' el' p'))
        · cases b <;> first | exact wpAny_pure h | exact wpAny_rule h
        · split <;> first | exact f1 | exact SetTable.fits_plain_off f1
        · split <;> exact r1
        · split <;> exact led1
      · refine wpAny_bind (wpAny_pure ?_)
        simp only [↓reduceIte]
        refine scan_tail (s := { s with toks := s.toks + 1 }) (fun b z Q' h => ?_) ho hex hd e1 el1 few1 f1 r1 led1 fun h' ks' es' ep' t' sb d' el' p' => wpAny_pure (fin h' ks' es' ep' t' sb d' el' p')
        cases b <;> first | exact wpAny_pure h | exact wpAny_rule h
end
end L2.Lp

set_option Elab.async false
set_option linter.all false
set_option maxRecDepth 100000
set_option maxHeartbeats 4000000
/-! Lp15: what set(..) keeps: nested tuples; set(x) of data; sorted(set(x)); len(set(x)). -/
namespace L2.Lp
open PySem PySem.Spec PySem.W L2
mutual
/-- the key of a datum -/
def kd : PyData → NestedKey
  | .bool b => .num (if b = true then 1 else 0)
  | .int i => .num i
  | .str x => .text x
  | .tuple ds => .tup (kds ds)
  | _ => .none
def kds : List PyData → List NestedKey
  | [] => []
  | d :: ds => kd d :: kds ds
end
mutual
/-- it has one -/
def keyed : PyData → Bool
  | .none => true
  | .bool _ => true
  | .int _ => true
  | .str _ => true
  | .tuple ds => keyeds ds
  | _ => false
def keyeds : List PyData → Bool
  | [] => true
  | d :: ds => keyed d && keyeds ds
end
section
variable {X : Cx} {pins : List (Addr × Obj)} {σ : St} {H : Hp} {s : Shared}
mutual
theorem nested_of (I : Inv X pins σ H s) : ∀ (d : PyData) (v : V) (u : Value), Dq X.K H v d → RelV v u → keyed d = true → NestedIs s.heap (kd d) u
  | .none, _, _, h, r, _ => by
    cases h
    cases r
    exact .none
  | .bool b, _, _, h, r, _ => by
    cases h
    cases r
    exact .bool rfl
  | .int i, _, _, h, r, _ => by
    cases h
    obtain ⟨t, rfl⟩ := r
    exact .int i t
  | .str x, _, _, h, r, _ => by
    cases h
    obtain ⟨t, rfl⟩ := r
    exact .text x t
  | .tuple ds, _, _, h, r, k => by
    cases h with
    | tup hs _ ha =>
      cases r
      obtain ⟨its, rv, ⟨o, ho, hc, n, hd⟩, _⟩ := I.tuple hs
      exact .tup ho hc hd (by simpa using nested_all I ds _ its ha rv k)
  | .list _, _, _, _, _, k => by cases k
  | .dict _, _, _, _, _, k => by cases k
theorem nested_all (I : Inv X pins σ H s) : ∀ (ds : List PyData) (vs : List V) (us : List Value), DqAll X.K H vs ds → Vals vs us → keyeds ds = true → NestedAll s.heap (kds ds) us
  | [], _, _, h, r, _ => by
    cases h
    cases r
    exact .nil
  | d :: ds, _, _, h, r, k => by
    simp only [keyeds, Bool.and_eq_true] at k
    cases h with
    | cons h1 h2 =>
      cases r with
      | cons r1 r2 => exact .cons (nested_of I d _ _ h1 r1 k.1) (nested_all I ds _ _ h2 r2 k.2)
end
end
/-- where it stands, and its key -/
def adr : V → Addr
  | .ref a => a
  | _ => 0
def rowOf (b : VB) : Row := (adr b.1, kd b.2)
theorem map_lift {α β : Type} (f : β → α) {l : List α} {bs : List β} (p : l.Perm (bs.map f)) : ∃ cs : List β, l = cs.map f ∧ cs.Perm bs := by
  have base : ∀ bs : List β, EachIs (fun x b => x = f b) (bs.map f) bs := fun bs => by
    induction bs with
    | nil => exact .nil
    | cons b bs ih => exact .cons rfl ih
  have back : ∀ {l : List α} {cs : List β}, EachIs (fun x b => x = f b) l cs → l = cs.map f := by
    intro l cs h
    induction h with
    | nil => rfl
    | cons a _ ih => rw [a, ih, List.map_cons]
  obtain ⟨cs, p2, e⟩ := each_perm p (base bs)
  exact ⟨cs, back e, p2⟩
section
variable {P : Program} {w : World} {A : Around} {E : Value → Shared → Prop} {s : Shared} {S : Addr} {ks bs : List VB} {es : Array (Int × Value)} {ep : Nat} {t : SetTable}
/-- tuples that have keys -/
structure Tups (h0 : Heap) (bs : List VB) : Prop where
  ref : ∀ b ∈ bs, ∃ a, b.1 = .ref a
  key : ∀ b ∈ bs, NK h0 (rowOf b)
def TabJ (w : World) (S : Addr) (bs : List VB) (i : Nat) (h : Heap) : Prop := ∃ ks es ep t, Tab w h S (ks.map rowOf) es ep t ∧ Kept kd bs i ks
theorem rows_keys (ks : List VB) : (ks.map rowOf).map (·.2) = ks.map fun b => kd b.2 := by rw [List.map_map]; rfl
theorem tab_fills {h0 : Heap} {vs : List Value} (few : bs.length < 64) (e0 : EachIs RV vs bs) (tp : Tups h0 bs) : Fills P w h0 S vs (TabJ w S bs) where
  stay := by
    rintro i h h' ⟨ks, es, ep, t, d, k⟩ k1 k2
    obtain ⟨o, ho, r⟩ := d.obj
    refine ⟨ks, es, ep, t, ⟨⟨o, k1 o ho, r⟩, d.row, d.tab, d.uni, fun r m => ?_, d.led, d.room, d.few⟩, k⟩
    obtain ⟨b, mb, rfl⟩ := List.mem_map.mp m
    exact nk_keep (tp.key b (List.mem_of_mem_take (k.sub b mb))) k2
  new := by
    intro h e
    refine ⟨[], #[], 0, _, ⟨⟨_, e, ⟨rfl, rfl, rfl⟩, rfl⟩, rfl, ⟨List.Pairwise.nil, rfl, rfl, .inl rfl, fun x m => (by cases m), fun i h j z => (by simp at z)⟩, List.nodup_nil, fun r m => (nomatch m), ?_, ?_, by show 0 < 64; omega⟩, Kept.zero⟩
    · show _ ∨ (!w.params.followText "set-order") = true
      cases w.params.followText "set-order"
      · exact .inr rfl
      · exact .inl rfl
    · show 0 * 5 < 7 * 3
      omega
  put := by
    rintro A E s i v Q hu hv old ⟨ks, es, ep, t, d, kp⟩ q
    obtain ⟨b, hb, rb⟩ := each_get e0 hv
    have mb := List.mem_of_getElem? hb
    obtain ⟨a, ea⟩ := tp.ref b mb
    have nk := nk_keep (tp.key b mb) old
    have er : rowOf b = (a, kd b.2) := by rw [rowOf, ea]; rfl
    rw [er] at nk
    obtain rfl : v = .ref a := by
      have z : RelV b.1 v := rb
      rw [ea] at z
      exact z
    unfold setAdd
    refine wpAny_holding (wpAny_bind ((nestedKind P w).pyHash (show A.units + 8 < cLine by omega) nk ?_))
    have len : (ks.map rowOf).length + 1 < 64 := by
      have z := kp.len
      have z2 : i < bs.length := (List.getElem?_eq_some_iff.mp hb).1
      rw [List.length_map]
      omega
    refine add1 (s := { s with toks := s.toks + _ }) d nk (by omega) len fun c h' L' es' ep' t' sb d' alt => ?_
    rcases alt with ⟨m, rfl⟩ | ⟨nm, pm⟩
    · refine q c h' _ sb ⟨ks, es', ep', t', d', kp.met hb ?_⟩
      rw [rows_keys] at m
      obtain ⟨y, my, ey⟩ := List.mem_map.mp m
      exact ⟨y, my, ey⟩
    · rw [← er] at pm
      obtain ⟨cs, rfl, pc⟩ := map_lift rowOf (bs := b :: ks) (by simpa using pm)
      refine q c h' _ sb ⟨cs, es', ep', t', d', kp.add hb (fun ⟨y, my, ey⟩ => nm ?_) pc⟩
      rw [rows_keys]
      exact List.mem_map.mpr ⟨y, my, ey⟩
theorem Tab.setD {h : Heap} (d : Tab w h S (ks.map rowOf) es ep t) (rf : ∀ b ∈ ks, ∃ a, b.1 = .ref a) : SetD w h S ks es ep t where
  obj := d.obj
  ent := by
    rw [d.row, ents, List.map_map, List.map_map]
    have go : ∀ ks : List VB, (∀ b ∈ ks, ∃ a, b.1 = .ref a) → EachIs RV (ks.map fun b => Value.ref (adr b.1)) ks := fun ks => by
      induction ks with
      | nil => exact fun _ => .nil
      | cons b ks ih =>
        intro h
        refine .cons ?_ (ih fun c m => h c (List.mem_cons_of_mem _ m))
        obtain ⟨a, e⟩ := h b List.mem_cons_self
        show RelV b.1 (Value.ref (adr b.1))
        rw [e]
        rfl
    exact go ks rf
  few := by
    have z := d.few
    rw [ents_len d.row]
    unfold scanBound
    omega
  fit := fits_of d.tab (ents_len d.row) (by have := d.room; omega)
  ris := d.tab.ris
  led := d.led
end
/-- which data set(..) takes here -/
def setOk (ds : List PyData) : Bool :=
  (ds.all fun d => (skey d).isSome) && decide (ds.length < scanBound) || (ds.all fun d => isTup d && keyed d && decide ((kd d).depth ≤ 8)) && decide (ds.length < 64)
section
variable {X : Cx} {pins : List (Addr × Obj)} {σ : St} {H : Hp} {s : Shared} {E : Value → Shared → Prop}
/-- set(x): a set that keeps one of each -/
theorem set_data (I : Inv X pins σ H s) {l : Addr} {its : List Value} {bs : List VB} (hc : X.calm = true) (hu : X.A.units + 64 < cLine) (hl : SeqAt s.heap l its.toArray) (e0 : EachIs RV its bs) (hd : ∀ b ∈ bs, Dq X.K H b.1 b.2) (ok : setOk (bs.map Prod.snd) = true) {Q : Value → Shared → Prop}
    (q : ∀ (h' : Heap) (tk : Nat) ks es ep t, SetD X.w h' s.heap.objs.size ks es ep t → Kept kd bs bs.length ks → (∀ b o, s.heap.get? b = some o → h'.get? b = some o) → Q (.ref s.heap.objs.size) { s with heap := h', toks := tk }) :
    wpAny (model X.prog X.w) X.A (call (.type "set") [.ref l]) Q E s := by
  have len := e0.length
  unfold setOk at ok
  simp only [Bool.or_eq_true, Bool.and_eq_true, List.all_eq_true, decide_eq_true_eq, List.length_map, List.mem_map, forall_exists_index, and_imp, forall_apply_eq_imp_iff₂] at ok
  rcases ok with ⟨ok, few⟩ | ⟨ok, few⟩
  · have pl : Plain X.prog X.w bs := ⟨fun b m => by
      obtain ⟨k, ek⟩ := Option.isSome_iff_exists.mp (ok b m)
      exact ⟨k, ek, fun v r => skey_is (hd b m) r ek⟩⟩
    refine set_call (P := X.prog) (w := X.w) (I.ok.hd hc) hl (scan_fills few (by simpa using e0) pl) (by omega) fun h' tk ⟨ks, es, ep, t, d, _, kp⟩ k => q h' tk ks es ep t d ?_ k
    have kp : Kept skey bs bs.length ks := by
      have z : its.toArray.size = bs.length := by simpa using len
      rw [← z]
      exact kp
    have fn : ∀ b ∈ bs, ∀ c ∈ bs, (skey b.2 = skey c.2 ↔ kd b.2 = kd c.2) := fun b mb c mc => by
      obtain ⟨k1, e1⟩ := Option.isSome_iff_exists.mp (ok b mb)
      obtain ⟨k2, e2⟩ := Option.isSome_iff_exists.mp (ok c mc)
      cases h1 : b.2 <;> rw [h1] at e1 <;> cases e1 <;> cases h2 : c.2 <;> rw [h2] at e2 <;> cases e2 <;> simp [skey, kd]
    refine ⟨kp.sub, fun b m => ?_, ?_, kp.len⟩
    · obtain ⟨c, mc, e⟩ := kp.all b m
      exact ⟨c, mc, (fn c (List.mem_of_mem_take (kp.sub c mc)) b (List.mem_of_mem_take m)).mp e⟩
    · have u := List.pairwise_map.mp kp.uni
      refine List.pairwise_map.mpr (List.Pairwise.imp_of_mem (fun {b c} mb mc ne e => ne ?_) u)
      exact (fn b (List.mem_of_mem_take (kp.sub b mb)) c (List.mem_of_mem_take (kp.sub c mc))).mpr e
  · have rf : ∀ b ∈ bs, ∃ a, b.1 = .ref a := fun b m => by
      have z := (ok b m).1.1
      have y := hd b m
      obtain ⟨v, d⟩ := b
      cases y with
      | tup _ _ _ => exact ⟨_, rfl⟩
      | _ => cases z
    have tp : Tups s.heap bs := ⟨rf, fun b m => by
      obtain ⟨a, ea⟩ := rf b m
      have y := nested_of I b.2 b.1 (.ref a) (hd b m) (by rw [ea]; rfl) (ok b m).1.2
      refine ⟨?_, (ok b m).2⟩
      rw [rowOf, ea]
      exact y⟩
    refine set_call (P := X.prog) (w := X.w) (I.ok.hd hc) hl (tab_fills few (by simpa using e0) tp) (by omega) fun h' tk ⟨ks, es, ep, t, d, kp⟩ k => ?_
    have kp : Kept kd bs bs.length ks := by
      have z : its.toArray.size = bs.length := by simpa using len
      rw [← z]
      exact kp
    exact q h' tk ks es ep t (d.setD fun b m => rf b (List.mem_of_mem_take (kp.sub b m))) kp k
end
end L2.Lp

set_option Elab.async false
set_option linter.all false
set_option maxRecDepth 100000
set_option maxHeartbeats 4000000
/-! Lp16: sorted(set(x)), len(set(x)) on data. -/
namespace L2.Lp
open PySem PySem.Spec PySem.W L2
open PyProof.Rows (seqObj kind_sorted plain_sorted entry_sorted args_sorted1 slot_list_sort entry_list_sort args_list_sort sortedHeap sortedHeap_at sortedHeap_old size_push')
mutual
/-- the same datum (dicts are not looked into) -/
def same : PyData → PyData → Bool
  | .none, .none => true
  | .bool a, .bool b => a == b
  | .int a, .int b => decide (a = b)
  | .str a, .str b => decide (a = b)
  | .list a, .list b => sames a b
  | .tuple a, .tuple b => sames a b
  | _, _ => false
def sames : List PyData → List PyData → Bool
  | [], [] => true
  | a :: as, b :: bs => same a b && sames as bs
  | _, _ => false
end
mutual
theorem same_eq : ∀ (a b : PyData), same a b = true → a = b
  | .none, b, h => by cases b <;> simp_all [same]
  | .bool x, b, h => by cases b <;> simp_all [same]
  | .int x, b, h => by cases b <;> simp_all [same]
  | .str x, b, h => by cases b <;> simp_all [same]
  | .list x, b, h => by
    cases b <;> simp [same] at h
    rw [sames_eq x _ h]
  | .tuple x, b, h => by
    cases b <;> simp [same] at h
    rw [sames_eq x _ h]
  | .dict x, b, h => by cases b <;> simp [same] at h
theorem sames_eq : ∀ (a b : List PyData), sames a b = true → a = b
  | [], b, h => by cases b <;> simp_all [sames]
  | x :: a, b, h => by
    cases b with
    | nil => simp [sames] at h
    | cons y b =>
      simp only [sames, Bool.and_eq_true] at h
      rw [same_eq x y h.1, sames_eq a b h.2]
end
/-- one key, one datum; and the order tells keys apart -/
def faceOk (ds : List PyData) : Bool := ds.all fun d => ds.all fun e => (!decide (kd d = kd e) || same d e) && (!(leD d e && leD e d) || decide (kd d = kd e))
def nub : List PyData → List PyData
  | [] => []
  | d :: ds => if (ds.any fun e => decide (kd e = kd d)) = true then nub ds else d :: nub ds
theorem nub_sub {d : PyData} : ∀ {ds : List PyData}, d ∈ nub ds → d ∈ ds
  | e :: ds, m => by
    unfold nub at m
    split at m
    · exact List.mem_cons_of_mem _ (nub_sub m)
    · rcases List.mem_cons.mp m with e | m
      · exact e ▸ List.mem_cons_self
      · exact List.mem_cons_of_mem _ (nub_sub m)
theorem nub_has {d : PyData} : ∀ {ds : List PyData}, d ∈ ds → ∃ e ∈ nub ds, kd e = kd d
  | e :: ds, m => by
    unfold nub
    rcases List.mem_cons.mp m with rfl | m
    · split
      · rename_i h
        obtain ⟨y, my, ey⟩ := List.any_eq_true.mp h
        obtain ⟨z, mz, ez⟩ := nub_has my
        exact ⟨z, mz, ez.trans (of_decide_eq_true ey)⟩
      · exact ⟨_, List.mem_cons_self, rfl⟩
    · obtain ⟨z, mz, ez⟩ := nub_has m
      split
      · exact ⟨z, mz, ez⟩
      · exact ⟨z, List.mem_cons_of_mem _ mz, ez⟩
theorem nub_uni : ∀ ds : List PyData, ((nub ds).map kd).Nodup
  | [] => List.nodup_nil
  | e :: ds => by
    unfold nub
    split
    · exact nub_uni ds
    · rename_i h
      refine List.nodup_cons.mpr ⟨fun m => h ?_, nub_uni ds⟩
      obtain ⟨y, my, ey⟩ := List.mem_map.mp m
      exact List.any_eq_true.mpr ⟨y, nub_sub my, decide_eq_true ey⟩
def sortSet (ds : List PyData) : List PyData := sortD (nub ds)
theorem face_key {ds : List PyData} (h : faceOk ds = true) {d e : PyData} (md : d ∈ ds) (me : e ∈ ds) (k : kd d = kd e) : d = e := by
  unfold faceOk at h
  simp only [List.all_eq_true, Bool.and_eq_true, Bool.or_eq_true, Bool.not_eq_true', decide_eq_false_iff_not] at h
  rcases (h d md e me).1 with z | z
  · exact absurd k z
  · exact same_eq d e z
theorem face_le {ds : List PyData} (h : faceOk ds = true) {d e : PyData} (md : d ∈ ds) (me : e ∈ ds) (a : leD d e = true) (b : leD e d = true) : d = e := by
  refine face_key h md me ?_
  unfold faceOk at h
  simp only [List.all_eq_true, Bool.and_eq_true, Bool.or_eq_true, Bool.not_eq_true', decide_eq_true_eq] at h
  rcases (h d md e me).2 with z | z
  · simp [a, b] at z
  · exact z
theorem sort_perm {l : List PyData} {ds : List PyData} (h : faceOk ds = true) (sub : ∀ d ∈ l, d ∈ ds) {l2 : List PyData} (p : l2.Perm l) : sortD l2 = sortD l := by
  refine List.Perm.eq_of_pairwise (le := fun a b => leD a b = true) (fun a b ma mb h1 h2 => face_le h (sub a (p.mem_iff.mp ((mem_isort).mp ma))) (sub b ((mem_isort).mp mb)) h1 h2) (isort_up leD_total _) (isort_up leD_total _) ?_
  have e1 : (sortD l2).Perm l2 := by rw [sortD_is]; exact List.mergeSort_perm _ _
  have e2 : (sortD l).Perm l := by rw [sortD_is]; exact List.mergeSort_perm _ _
  exact e1.trans (p.trans e2.symm)
/-- whatever one keeps of each key, sorted it is the same -/
theorem kept_sort {bs ks : List VB} (h : faceOk (bs.map Prod.snd) = true) (k : Kept kd bs bs.length ks) : sortD (ks.map Prod.snd) = sortSet (bs.map Prod.snd) := by
  have inb : ∀ b ∈ ks, b ∈ bs := fun b m => List.mem_of_mem_take (k.sub b m)
  refine sort_perm h (fun d m => nub_sub m) ((List.perm_ext_iff_of_nodup ?_ ?_).mpr fun d => ⟨fun m => ?_, fun m => ?_⟩)
  · refine nodup_of_map (f := kd) ?_
    rw [List.map_map]
    exact k.uni
  · exact nodup_of_map (nub_uni _)
  · obtain ⟨b, mb, rfl⟩ := List.mem_map.mp m
    have m2 : b.2 ∈ bs.map Prod.snd := List.mem_map.mpr ⟨b, inb b mb, rfl⟩
    obtain ⟨e, me, ek⟩ := nub_has (ds := bs.map Prod.snd) m2
    rw [← face_key h (nub_sub me) m2 ek]
    exact me
  · obtain ⟨b, mb, rfl⟩ := List.mem_map.mp (nub_sub m)
    obtain ⟨c, mc, ec⟩ := k.all b (by rw [List.take_length]; exact mb)
    have : c.2 = b.2 := face_key h (List.mem_map.mpr ⟨c, inb c mc, rfl⟩) (List.mem_map.mpr ⟨b, mb, rfl⟩) ec
    exact List.mem_map.mpr ⟨c, mc, this⟩
theorem kept_len2 {bs ks : List VB} (h : faceOk (bs.map Prod.snd) = true) (k : Kept kd bs bs.length ks) : ks.length = (nub (bs.map Prod.snd)).length := by
  have e := congrArg List.length (kept_sort h k)
  unfold sortSet sortD at e
  rw [len_isort, len_isort, List.length_map] at e
  exact e
theorem sortOk_sub {ds es : List PyData} (h : sortOk ds = true) (s : ∀ d ∈ es, d ∈ ds) : sortOk es = true := by
  unfold sortOk at h ⊢
  simp only [Bool.and_eq_true, Bool.or_eq_true, List.all_eq_true] at h ⊢
  exact ⟨⟨fun d m e n => h.1.1 d (s d m) e (s e n), h.1.2.imp (fun z d m => z d (s d m)) fun z d m => z d (s d m)⟩, fun d m => h.2 d (s d m)⟩
section
variable {P : Program} {w : World} {A : Around} {E : Value → Shared → Prop} {s : Shared} {S : Addr} {ks : List VB} {es : Array (Int × Value)} {ep : Nat} {t : SetTable}
theorem sorted_setD (d : SetD w s.heap S ks es ep t) (hh : A.handled = none) (rd : ∀ b ∈ ks, ∀ v, RV v b → ∃ as, Reads s.heap v b.2 as) (ok : sortOk (ks.map Prod.snd) = true) (hu : A.units + 64 < cLine) {Q : Value → Shared → Prop}
    (q : ∀ s' p (out : List Value) c (ks' : List VB), (∀ b o, s.heap.get? b = some o → s'.heap.get? b = some o) → s'.gens = s.gens → s'.os = s.os → s.heap.objs.size ≤ p → s'.heap.get? p = some (seqObj "list" out.toArray c) → ks'.Perm ks → EachIs RV out (ks'.mergeSort (dataLe false Prod.snd)) → Q (.ref p) s') :
    wpAny (model P w) A (call (.builtin "sorted") [.ref S]) Q E s := by
  obtain ⟨o, ho, hex, hd⟩ := d.obj
  refine Calls.call_function_entry kind_sorted plain_sorted entry_sorted (args_sorted1 _) ?_
  unfold Builtin.«sorted»
  refine wpAny_bind (m := checkCount "sorted" 1 1 _) (wpAny_pure (wpAny_bind (collect_set (A := A.in1) hh ⟨o, ho, hex.1, hd⟩ d.fit d.few d.ris d.led fun s1 vs k1 hz g1 o1 pm => ?_)))
  obtain ⟨ks', pk, e1⟩ := each_perm pm d.ent
  have hlen : vs.length ≤ sizeLine := by
    have z := d.few
    unfold scanBound at z
    rw [pm.length_eq, List.length_map, Array.length_toList, sizeLine_eq]
    omega
  refine wpAny_bind (wpAny_newList ?_ hlen)
  have hL : (s1.heap.push (seqObj "list" vs.toArray 0)).get? s1.heap.objs.size = some (seqObj "list" vs.toArray 0) := Heap.get?_push_size _ rfl
  have old : ∀ b u, s.heap.get? b = some u → (sortingHeap (s1.heap.push (seqObj "list" vs.toArray 0)) s1.heap.objs.size vs).get? b = some u := fun b u e =>
    sortingHeap_old (Nat.ne_of_lt (Heap.lt_size (k1 b u e))) (Heap.get?_push_of_some _ (k1 b u e))
  have e2 : EachIs (fun v b => ∃ as, Reads (sortingHeap (s1.heap.push (seqObj "list" vs.toArray 0)) s1.heap.objs.size vs) v b.2 as) vs ks' := by
    have go : ∀ {l : List Value} {cs : List VB}, EachIs RV l cs → (∀ b ∈ cs, b ∈ ks) → EachIs (fun v b => ∃ as, Reads (sortingHeap (s1.heap.push (seqObj "list" vs.toArray 0)) s1.heap.objs.size vs) v b.2 as) l cs := by
      intro l cs h
      induction h with
      | nil => exact fun _ => .nil
      | cons a _ ih =>
        intro m
        obtain ⟨as, r⟩ := rd _ (m _ List.mem_cons_self) _ a
        exact .cons ⟨as, PyProof.Rows.Reads.keeps (fun b u e => old b u e) r⟩ (ih fun c mc => m c (List.mem_cons_of_mem _ mc))
    exact go e1 fun b m => pk.mem_iff.mp m
  have ok2 : sortOk (ks'.map Prod.snd) = true := sortOk_sub ok fun d m => (pk.map Prod.snd).mem_iff.mp m
  have hal : AllAlike (ks'.map Prod.snd) := by
    unfold sortOk at ok2
    simp only [Bool.and_eq_true, List.all_eq_true] at ok2
    exact ok2.1.1
  have SA := sortsAt_ok (prog := P) (w := w) (A := A.in1.in1) (s := { s1 with heap := sortingHeap (s1.heap.push (seqObj "list" vs.toArray 0)) s1.heap.objs.size vs }) (each_map2 (R' := fun v d => ∃ as, Reads (sortingHeap (s1.heap.push (seqObj "list" vs.toArray 0)) s1.heap.objs.size vs) v d as) Prod.snd (fun _ _ q => q) e2) ok2
    (by simp only [Around.in1_units]; omega)
  refine wpAny_bind (wpAny_holding (wpAny_call_entry slot_list_sort ⟨_, hL, rfl⟩ entry_list_sort (list_sort_vals (s := { s1 with heap := s1.heap.push (seqObj "list" vs.toArray 0) }) hL SA hlen ⟨_, rfl, ?_⟩) (args_list_sort _)))
  have out := sortVals_data (R := RV) (enc := Prod.snd) false e1 e2 hal
  obtain ⟨c, hc⟩ := sortedHeap_at (vs := vs) (out := (sortVals (dataKind (sortingHeap (s1.heap.push (seqObj "list" vs.toArray 0)) s1.heap.objs.size vs) (ks'.map Prod.snd)) false vs vs).toArray) hL
  refine wpAny_pure ⟨_, rfl, q _ s1.heap.objs.size _ c ks' (fun b u e => ?_) g1 o1 hz hc pk out⟩
  show (sortedHeap (s1.heap.push (seqObj "list" vs.toArray 0)) s1.heap.objs.size vs _).get? b = some u
  rw [sortedHeap_old (Nat.ne_of_lt (Heap.lt_size (k1 b u e))) (by rw [size_push']; exact Nat.lt_succ_of_lt (Heap.lt_size (k1 b u e)))]
  exact Heap.get?_push_of_some _ (k1 b u e)
end
end L2.Lp

set_option Elab.async false
set_option linter.all false
set_option maxRecDepth 100000
set_option maxHeartbeats 4000000
/-! Lp17: the expressions sorted(set(x)) and len(set(x)). -/
namespace L2.Lp
open PySem PySem.Spec PySem.W L2
open PyProof.Rows (seqObj boot_set boot_sorted)
def sortSetD (d : PyData) : Option (List PyData) := do
  let ds ← items d
  if (setOk ds && sortOk ds && faceOk ds) = true then some (sortSet ds) else none
def lenSetD (d : PyData) : Option PyData := do
  let ds ← items d
  if (setOk ds && faceOk ds) = true then some (.int (nub ds).length) else none
def fG1F (g : PyData → Option (List PyData)) (f : Sf) : Ff := fun env => do
  let (r, e1) ← f env
  let d ← res e1 r
  let ds ← g d
  pure (ds, e1)
def fG1 (g : PyData → Option PyData) (f : Sf) : Sf := fun env => do
  let (r, e1) ← f env
  let d ← res e1 r
  let x ← g d
  pure (.d x, e1)
theorem nub_len : ∀ ds : List PyData, (nub ds).length ≤ ds.length
  | [] => Nat.le_refl _
  | d :: ds => by
    unfold nub
    split
    · exact Nat.le_succ_of_le (nub_len ds)
    · exact Nat.succ_le_succ (nub_len ds)
section
variable {X : Cx} {c : Cn} {a : Expr} {f : Sf} {pins : List (Addr × Obj)} {σ : St} {H : Hp} {s : Shared} {E : Value → Shared → Prop}
/-- what set(..) gave for ds -/
def IsSet (X : Cx) (pins : List (Addr × Obj)) (σ : St) (H0 H : Hp) (ds : List PyData) (v : Value) (s : Shared) : Prop := ∃ S bs ks es ep t, v = .ref S ∧ SetD X.w s.heap S ks es ep t ∧ Kept kd bs bs.length ks ∧ bs.map Prod.snd = ds ∧ (∀ b ∈ bs, Dq X.K H0 b.1 b.2) ∧ Inv X pins σ H s
theorem call_setD (hc : X.calm = true) (hu : X.A.units + 64 < cLine) (I : Inv X pins σ H s) {l : Addr} {xs : List V} {H0 : Hp} {ds : List PyData} (sub : Same H0 H) (h : SqL X.K H l xs ∨ SqT X.K H l xs) (al : DqAll X.K H0 xs ds) (ok : setOk ds = true) :
    wpAny (model X.prog X.w) X.A (call (.type "set") [.ref l]) (IsSet X pins σ H0 H ds) E s := by
  obtain ⟨p1, p2, p3⟩ := dqAll_pairs al
  have go : ∀ its : List Value, Vals xs its → SeqAt s.heap l its.toArray → wpAny (model X.prog X.w) X.A (call (.type "set") [.ref l]) (IsSet X pins σ H0 H ds) E s := fun its rv hl => by
    refine set_data I hc hu hl (vals_each (by rw [p1]; exact rv)) (fun b m => (p3 b m).mono sub) (by rw [p2]; exact ok) fun h' tk ks es ep t sd kp k => ?_
    exact ⟨_, _, ks, es, ep, t, rfl, sd, kp, p2, p3, I.kept k⟩
  rcases h with h | h
  · obtain ⟨its, rv, pl, _⟩ := I.list h
    exact go its rv (.inl pl.isList)
  · obtain ⟨its, rv, pl, _⟩ := I.tuple h
    exact go its rv (.inr pl)
theorem sf_sortset {p p2 q pos : Pos} (hc : X.calm = true) (hu : X.A.units + 64 < cLine) (hg : Gl X "sorted") (hm : X.mg "sorted" = none) (hg2 : Gl X "set") (hm2 : X.mg "set" = none) (ha : SE X c a f)
    (na : starEach [a] X.env = (false, eval a X.env) :: starEach [] X.env := by rfl) : SF X c (.Call (.Name "sorted" p) [.Call (.Name "set" p2) [a] [] q] [] pos) (fG1F sortSetD f) := by
  refine ⟨fun pins s σ H Q I ⟨P, env, ds, env', R0, e, k⟩ => ?_⟩
  simp only [fG1F, Option.bind_eq_bind, Option.bind_eq_some_iff, Option.pure_def, Option.some.injEq] at e
  obtain ⟨⟨r, e1⟩, k1, d, k2, es, k3, k4⟩ := e
  cases k4
  refine PyProof.Rows.Call_ (ld_blt I hg hm boot_sorted ?_)
  refine PyProof.Rows.callWith_builtin1 (PyProof.Rows.args_cons ?_ rfl) rfl rfl
  refine PyProof.Rows.Call_ (ld_blt I hg2 hm2 boot_set ?_)
  refine PyProof.Rows.callWith_type1 (PyProof.Rows.args_cons (thn (ha.run pins s σ H (fun x H1 => ∃ P', Rel X.K c P' σ H1 e1 ∧ Stp P H P' H1 ∧ RelT X.K P' σ H1 x r) I ⟨P, env, r, e1, R0, k1, fun x P' H1 R1 s1 q1 => ⟨P', R1, s1, q1⟩⟩) fun v s1 ⟨x, H1, I1, r1, P1, R1, st1, q1⟩ => PyProof.Rows.args_nil ?_) na) na rfl
  simp only [sortSetD, Option.bind_eq_bind, Option.bind_eq_some_iff] at k3
  obtain ⟨is, k5, k6⟩ := k3
  obtain ⟨l, xs, rfl, hsq, len0, al⟩ := (R1.res q1 k2).seq k5
  cases r1
  split at k6
  · rename_i ok
    cases k6
    simp only [Bool.and_eq_true] at ok
    refine thn (call_setD hc hu I1 (hid_sub P1 H1) hsq al ok.1.1) fun v2 s2 ⟨S, bs, ks, es, ep, t, ev, sd, kp, eb, dq, I2⟩ => ?_
    subst ev eb
    have inb : ∀ b ∈ ks, b ∈ bs := fun b m => List.mem_of_mem_take (kp.sub b m)
    have ok2 : sortOk (ks.map Prod.snd) = true := sortOk_sub ok.1.2 fun z m => by
      obtain ⟨b, mb, rfl⟩ := List.mem_map.mp m
      exact List.mem_map.mpr ⟨b, inb b mb, rfl⟩
    have lay : ∀ b ∈ bs, noD b.2 = true := fun b m => noD_of (sortOk_lay ok.1.2 _ (List.mem_map.mpr ⟨b, m, rfl⟩))
    refine PyProof.Rows.args_nil (sorted_setD sd (I2.ok.hd hc) (fun b m v r => Dp.reads I2 b.2 b.1 v (((dq b (inb b m)).mono (hid_sub P1 H1)).dp (lay b (inb b m))) r) ok2 hu fun s3 p out cnt ks' k3 g o hp hg' pm eo => ?_)
    have fin : sortD (ks'.map Prod.snd) = sortSet (bs.map Prod.snd) := by
      have z : Kept kd bs bs.length ks' := kp.perm pm
      exact kept_sort ok.2 z
    have len : (ks'.mergeSort (dataLe false Prod.snd)).length ≤ sizeLine := by
      have := kp.len
      rw [List.length_map] at len0
      rw [List.length_mergeSort, pm.length_eq]
      omega
    have eqs : (ks'.mergeSort (dataLe false Prod.snd)).map Prod.snd = sortSet (bs.map Prod.snd) := by rw [sort_pairs, fin]
    have dqs := pairs_dqAll (K := X.K) (H := hid P1 H1) (bs := ks'.mergeSort (dataLe false Prod.snd)) fun b hb => dq b (inb b (pm.mem_iff.mp (List.mem_mergeSort.mp hb)))
    rw [eqs] at dqs
    have hn : H1 p = none := I2.hok.fresh hp
    have J : Inv X pins σ (upd H1 p (.lst ((ks'.mergeSort (dataLe false Prod.snd)).map Prod.fst))) s3 :=
      I2.call' (ch := []) o (Un.laid k3 hp hn) (I2.hok.laid k3 hp ⟨by rw [List.length_map]; exact len, out, cnt, each_vals eo, hg'⟩) (by rw [g]; exact I2.bare) (fun _ z => nomatch z)
    refine ⟨.ref p, _, J, rfl, k p _ P1 H1 R1 st1 dqs ?_ hn⟩
    rw [← eqs, List.length_map]
    exact len
  · cases k6
theorem se_lenset {p p2 q pos : Pos} (hc : X.calm = true) (hu : X.A.units + 64 < cLine) (hg : Gl X "len") (hm : X.mg "len" = none) (hg2 : Gl X "set") (hm2 : X.mg "set" = none) (ha : SE X c a f)
    (na : starEach [a] X.env = (false, eval a X.env) :: starEach [] X.env := by rfl) : SE X c (.Call (.Name "len" p) [.Call (.Name "set" p2) [a] [] q] [] pos) (fG1 lenSetD f) := by
  refine ⟨fun pins s σ H Q I ⟨P, env, ds, env', R0, e, k⟩ => ?_⟩
  simp only [fG1, Option.bind_eq_bind, Option.bind_eq_some_iff, Option.pure_def, Option.some.injEq] at e
  obtain ⟨⟨r, e1⟩, k1, d, k2, es, k3, k4⟩ := e
  cases k4
  refine PyProof.Rows.Call_ (ld_blt I hg hm PySem.boot_len ?_)
  refine PyProof.Rows.callWith_builtin1 (PyProof.Rows.args_cons ?_ rfl) rfl rfl
  refine PyProof.Rows.Call_ (ld_blt I hg2 hm2 boot_set ?_)
  refine PyProof.Rows.callWith_type1 (PyProof.Rows.args_cons (thn (ha.run pins s σ H (fun x H1 => ∃ P', Rel X.K c P' σ H1 e1 ∧ Stp P H P' H1 ∧ RelT X.K P' σ H1 x r) I ⟨P, env, r, e1, R0, k1, fun x P' H1 R1 s1 q1 => ⟨P', R1, s1, q1⟩⟩) fun v s1 ⟨x, H1, I1, r1, P1, R1, st1, q1⟩ => PyProof.Rows.args_nil ?_) na) na rfl
  simp only [lenSetD, Option.bind_eq_bind, Option.bind_eq_some_iff] at k3
  obtain ⟨is, k5, k6⟩ := k3
  obtain ⟨l, xs, rfl, hsq, len0, al⟩ := (R1.res q1 k2).seq k5
  cases r1
  split at k6
  · rename_i ok
    cases k6
    simp only [Bool.and_eq_true] at ok
    refine thn (call_setD hc hu I1 (hid_sub P1 H1) hsq al ok.1) fun v2 s2 ⟨S, bs, ks, es, ep, t, ev, sd, kp, eb, dq, I2⟩ => ?_
    subst ev eb
    obtain ⟨o, ho, hex, hd⟩ := sd.obj
    have sz : es.size = (nub (bs.map Prod.snd)).length := by
      rw [← kept_len2 ok.2 kp]
      have := sd.ent.length
      simpa using this
    refine PyProof.Rows.args_nil (call_len_set ho hex hd sd.fit ?_ ⟨.int es.size, H1, I2.tok _, ⟨_, rfl⟩, ?_⟩)
    · have := sd.few
      unfold scanBound at this
      omega
    · refine k _ P1 H1 R1 st1 ?_
      rw [sz]
      exact .int _
  · cases k6
end
end L2.Lp

set_option Elab.async false
set_option linter.all false
set_option maxRecDepth 100000
set_option maxHeartbeats 4000000
/-! Lp18: orderings of data, isinstance, slices. -/
namespace L2.Lp
open PySem PySem.Spec L2
open PySem.W (alike dataLt lt_data le_data gt_data ge_data)
section
variable {X : Cx} {K : PySem.W.Frag}
/-! ### a < b -/
def ordOk (d e : PyData) : Bool := alike d e && !isNo d && decide (d.depth ≤ 60) && noD d && noD e
def rOrd (K : PySem.W.Frag) (f : PyData → PyData → Bool) : R2 := fun x y H Q => ∃ d e, Dp K H x d ∧ Dp K H y e ∧ ordOk d e = true ∧ Q (.bl (f d e)) H
theorem ordOk_is {d e : PyData} (h : ordOk d e = true) {A : Around} (hu : A.units + 64 < cLine) : alike d e = true ∧ d ≠ .none ∧ A.units + min d.depth e.depth < cLine := by
  unfold ordOk at h
  simp only [Bool.and_eq_true, Bool.not_eq_true', decide_eq_true_eq] at h
  refine ⟨h.1.1.1.1, fun z => ?_, ?_⟩
  · have := h.1.1.1.2
    rw [z] at this
    cases this
  · have := h.1.1.2
    omega
theorem op_ltD (hu : X.A.units + 64 < cLine) : OpR X (compareOp .Lt) (rOrd X.K fun d e => dataLt d e) := by
  intro pins s σ H x y v u Q I rx ry h
  obtain ⟨d, e, h1, h2, ok, q⟩ := h
  obtain ⟨as, r1⟩ := Dp.reads I d x v h1 rx
  obtain ⟨bs, r2⟩ := Dp.reads I e y u h2 ry
  obtain ⟨k1, k2, k3⟩ := ordOk_is ok hu
  exact lt_data r1 r2 k1 k2 k3 ⟨.bl _, H, I, rfl, q⟩
theorem op_gtD (hu : X.A.units + 64 < cLine) : OpR X (compareOp .Gt) (rOrd X.K fun d e => dataLt e d) := by
  intro pins s σ H x y v u Q I rx ry h
  obtain ⟨d, e, h1, h2, ok, q⟩ := h
  obtain ⟨as, r1⟩ := Dp.reads I d x v h1 rx
  obtain ⟨bs, r2⟩ := Dp.reads I e y u h2 ry
  obtain ⟨k1, k2, k3⟩ := ordOk_is ok hu
  exact gt_data r1 r2 k1 k2 k3 ⟨.bl _, H, I, rfl, q⟩
theorem op_leD (hu : X.A.units + 64 < cLine) : OpR X (compareOp .LtE) (rOrd X.K fun d e => !dataLt e d) := by
  intro pins s σ H x y v u Q I rx ry h
  obtain ⟨d, e, h1, h2, ok, q⟩ := h
  obtain ⟨as, r1⟩ := Dp.reads I d x v h1 rx
  obtain ⟨bs, r2⟩ := Dp.reads I e y u h2 ry
  obtain ⟨k1, k2, k3⟩ := ordOk_is ok hu
  exact le_data r1 r2 k1 k2 k3 ⟨.bl _, H, I, rfl, q⟩
theorem op_geD (hu : X.A.units + 64 < cLine) : OpR X (compareOp .GtE) (rOrd X.K fun d e => !dataLt d e) := by
  intro pins s σ H x y v u Q I rx ry h
  obtain ⟨d, e, h1, h2, ok, q⟩ := h
  obtain ⟨as, r1⟩ := Dp.reads I d x v h1 rx
  obtain ⟨bs, r2⟩ := Dp.reads I e y u h2 ry
  obtain ⟨k1, k2, k3⟩ := ordOk_is ok hu
  exact ge_data r1 r2 k1 k2 k3 ⟨.bl _, H, I, rfl, q⟩
def gOrd (f : PyData → PyData → Bool) (d e : PyData) : Option PyData := if ordOk d e = true then some (.bool (f d e)) else none
theorem opg_ord {f : PyData → PyData → Bool} : OpG K (rOrd K f) (gOrd f) := by
  intro x y H P d1 d2 d Q q1 q2 pt e k
  unfold gOrd at e
  split at e
  · rename_i h
    cases e
    have h' := h
    unfold ordOk at h'
    simp only [Bool.and_eq_true] at h'
    exact ⟨d1, d2, q1.dq.dp h'.1.2, q2.dq.dp h'.2, h, k.now (.bl _)⟩
  · cases e
/-- ints first, as they are met most -/
def gLtA : PyData → PyData → Option PyData := fun a b => (gLt a b).or (gOrd (fun d e => dataLt d e) a b)
def gGtA : PyData → PyData → Option PyData := fun a b => (gGt a b).or (gOrd (fun d e => dataLt e d) a b)
def gLeA : PyData → PyData → Option PyData := fun a b => (gLe a b).or (gOrd (fun d e => !dataLt e d) a b)
def gGeA : PyData → PyData → Option PyData := fun a b => (gGe a b).or (gOrd (fun d e => !dataLt d e) a b)
def rLtA (K : PySem.W.Frag) : R2 := fun x y H Q => rI0 (fun i j => .bl (decide (i < j))) x y H Q ∨ rOrd K (fun d e => dataLt d e) x y H Q
theorem opg_ltA : OpG K (rLtA K) gLtA := OpG.or opg_lt opg_ord
theorem op_ltA (hu : X.A.units + 64 < cLine) : OpR X (compareOp .Lt) (rLtA X.K) := op_lt.or (op_ltD hu)
def rGtA (K : PySem.W.Frag) : R2 := fun x y H Q => rI0 (fun i j => .bl (decide (j < i))) x y H Q ∨ rOrd K (fun d e => dataLt e d) x y H Q
theorem opg_gtA : OpG K (rGtA K) gGtA := OpG.or opg_gt opg_ord
theorem op_gtA (hu : X.A.units + 64 < cLine) : OpR X (compareOp .Gt) (rGtA X.K) := op_gt.or (op_gtD hu)
def rLeA (K : PySem.W.Frag) : R2 := fun x y H Q => rI0 (fun i j => .bl (decide (i ≤ j))) x y H Q ∨ rOrd K (fun d e => !dataLt e d) x y H Q
theorem opg_leA : OpG K (rLeA K) gLeA := OpG.or opg_le opg_ord
theorem op_leA (hu : X.A.units + 64 < cLine) : OpR X (compareOp .LtE) (rLeA X.K) := op_le.or (op_leD hu)
def rGeA (K : PySem.W.Frag) : R2 := fun x y H Q => rI0 (fun i j => .bl (decide (j ≤ i))) x y H Q ∨ rOrd K (fun d e => !dataLt d e) x y H Q
theorem opg_geA : OpG K (rGeA K) gGeA := OpG.or opg_ge opg_ord
theorem op_geA (hu : X.A.units + 64 < cLine) : OpR X (compareOp .GtE) (rGeA X.K) := op_ge.or (op_geD hu)
/-! ### isinstance -/
def tyN : PyData → String
  | .none => "NoneType"
  | .bool _ => "bool"
  | .int _ => "int"
  | .str _ => "str"
  | .list _ => "list"
  | .tuple _ => "tuple"
  | .dict _ => "dict"
theorem tyX_rd {H : Hp} {a : Addr} {xs : List V} (h : SqL K H a xs) : TyX K H (.ref a) (.type "list") := by
  rcases h with (h | ⟨u, h⟩) | ⟨o, its, n, hk, hc, _⟩
  · exact .base (.lst h)
  · exact .base (.frz h)
  · exact .kList hk hc
theorem tyX_rt {H : Hp} {a : Addr} {xs : List V} (h : SqT K H a xs) : TyX K H (.ref a) (.type "tuple") := by
  rcases h with (h | ⟨u, h⟩) | ⟨o, its, n, hk, hc, _⟩
  · exact .base (.tup h)
  · exact .fTuple h
  · exact .kTuple hk hc
theorem Dq.ty {H : Hp} {v : V} {d : PyData} (q : Dq K H v d) : TyX K H v (.type (tyN d)) := by
  cases q with
  | non => exact .base .non
  | bl b => exact .base (.bl b)
  | int i => exact .base (.int i)
  | str x => exact .base (.str x)
  | lst h _ _ => exact tyX_rd h
  | tup h _ _ => exact tyX_rt h
  | dic h _ => exact .base (.dK h)
/-- of one of these types; all pairs are known -/
def isOf (ts : List String) (d : PyData) : Option Bool := match ts with
  | [] => some false
  | t :: ts => match kitB (tyN d) t with
    | some true => some true
    | some false => isOf ts d
    | none => none
theorem kitAny_ts {d : PyData} : ∀ {ts : List String} {b : Bool}, isOf ts d = some b → PySem.W.kitAny K (.type (tyN d)) (ts.map Value.type) = some b
  | [], b, h => by
    cases h
    rfl
  | t :: ts, b, h => by
    unfold isOf at h
    cases hk : kitB (tyN d) t with
    | none => simp [hk] at h
    | some r =>
      cases r with
      | true =>
        simp [hk] at h
        subst h
        exact kitAny_cons (kit_ty hk) (fun z => nomatch z) fun _ => rfl
      | false =>
        simp [hk] at h
        exact kitAny_cons (kit_ty hk) (fun _ => kitAny_ts h) fun z => nomatch z
theorem paired_ts : ∀ ts : List String, Paired ClsV (ts.map V.ty) (ts.map Value.type)
  | [] => .nil
  | t :: ts => .cons (.ty t) (paired_ts ts)
def fIsi (ts : List String) (f : Sf) : Sf := fun env => do
  let (r, e1) ← f env
  let d ← res e1 r
  let b ← isOf ts d
  pure (.d (.bool b), e1)
variable {c : Cn} {a : Expr} {f : Sf} {es : List Expr}
theorem se_isi1 {T : String} {y : Str} {p p2 pos : Pos} (hg : Gl X "isinstance") (hm : X.mg "isinstance" = none) (hg2 : Gl X y) (hm2 : X.mg y = none) (hv : bootBuiltins y = some (.type T)) (ha : SE X c a f)
    (hn : y ≠ "__name__" := by decide) (hd : (y == ("__debug__" : Str)) = false := by decide) (hs1 : starEach [a, .Name y p2] X.env = (false, eval a X.env) :: starEach [.Name y p2] X.env := by rfl) (hs2 : starEach [.Name y p2] X.env = (false, eval (.Name y p2) X.env) :: starEach [] X.env := by rfl)
    (hpl : (backTo pos (starEach [.Name y p2] X.env)).any (·.1) = false := by rfl) : SE X c (.Call (.Name "isinstance" p) [a, .Name y p2] [] pos) (fIsi [T] f) := by
  refine imp (pe_callB call_isi hg hm PyProof.Rows.boot_isinstance (pa_cons ha (pa_cons (pe_bltn hg2 hm2 hv (v := .ty T) rfl hn hd) pa_nil hs2) hs1) (by decide) (by decide) hs1 hpl) fun σ H Q ⟨P, env, r, env', R0, e, k⟩ => ?_
  simp only [fIsi, Option.bind_eq_bind, Option.bind_eq_some_iff, Option.pure_def, Option.some.injEq] at e
  obtain ⟨⟨r1, e1⟩, k1, d, k2, b, k3, k4⟩ := e
  cases k4
  refine ⟨P, env, r1, e1, R0, k1, fun v P1 H1 R1 s1 q1 => ⟨v, .ty T, .type (tyN d), .type T, b, rfl, .ty T, (R1.res q1 k2).dq.ty, ?_, k _ P1 H1 R1 s1 (.bl b)⟩⟩
  unfold isOf at k3
  refine kit_ty ?_
  cases hk : kitB (tyN d) T with
  | none => simp [hk] at k3
  | some z => cases z <;> simpa [hk, isOf] using k3
end
end L2.Lp

set_option Elab.async false
set_option linter.all false
set_option maxRecDepth 100000
set_option maxHeartbeats 4000000
/-! Lp19: isinstance of several types, slices. -/
namespace L2.Lp
open PySem PySem.Spec L2
section
variable {X : Cx} {K : PySem.W.Frag} {c : Cn} {a : Expr} {f : Sf} {es : List Expr}
def tTys : List String → TA
  | [] => tNil
  | t :: ts => tCons (tC (.ty t)) (tTys ts)
theorem tTys_run : ∀ (ts : List String) {σ : St} {H : Hp} {Q : List V → Hp → Prop}, Q (ts.map V.ty) H → tTys ts σ H Q
  | [], _, _, _, q => q
  | t :: ts, _, _, _, q => tTys_run ts q
theorem pa_ty {T : String} {ts : List String} {y : Str} {p : Pos} (hg : Gl X y) (hm : X.mg y = none) (hv : bootBuiltins y = some (.type T)) (r : PA X es (tTys ts)) (hn : y ≠ "__name__" := by decide) (hd : (y == ("__debug__" : Str)) = false := by decide)
    (hs : starEach (.Name y p :: es) X.env = (false, eval (.Name y p) X.env) :: starEach es X.env := by rfl) : PA X (.Name y p :: es) (tTys (T :: ts)) := pa_cons (pe_bltn hg hm hv (v := .ty T) rfl hn hd) r hs
theorem se_isiT {ts : List String} {k : Nat} {p tp pos : Pos} (hg : Gl X "isinstance") (hm : X.mg "isinstance" = none) (ht : PA X es (tTys ts)) (ha : SE X c a f) (hl : ts.length ≤ 1000 := by decide)
    (hs1 : starEach [a, .Tuple es k tp] X.env = (false, eval a X.env) :: starEach [.Tuple es k tp] X.env := by rfl) (hs2 : starEach [.Tuple es k tp] X.env = (false, eval (.Tuple es k tp) X.env) :: starEach [] X.env := by rfl)
    (hpl : (backTo pos (starEach [.Tuple es k tp] X.env)).any (·.1) = false := by rfl) : SE X c (.Call (.Name "isinstance" p) [a, .Tuple es k tp] [] pos) (fIsi ts f) := by
  refine imp (pe_callB call_isiT hg hm PyProof.Rows.boot_isinstance (pa_cons ha (pa_cons (pe_tup ht) pa_nil hs2) hs1) (by decide) (by decide) hs1 hpl) fun σ H Q ⟨P, env, r, env', R0, e, k⟩ => ?_
  simp only [fIsi, Option.bind_eq_bind, Option.bind_eq_some_iff, Option.pure_def, Option.some.injEq] at e
  obtain ⟨⟨r1, e1⟩, k1, d, k2, b, k3, k4⟩ := e
  cases k4
  refine ⟨P, env, r1, e1, R0, k1, fun v P1 H1 R1 s1 q1 => tTys_run ts ⟨by rw [List.length_map, sizeLine_eq]; omega, fun p hp => ?_⟩⟩
  have s3 := upd_ext (o := .tup (ts.map V.ty)) hp
  exact ⟨v, p, ts.map V.ty, .type (tyN d), ts.map Value.type, b, rfl, upd_same, paired_ts ts, ((R1.res q1 k2).dq.mono s3).ty, kitAny_ts k3, k _ P1 _ (R1.same s3) (s1.trans (hid_same s3)) (.bl b)⟩
/-! ### x[lo:hi] -/
abbrev Of := List Sl → Option (Option Int × List Sl)
def tO (K : PySem.W.Frag) (c : Cn) (f : Of) : TO := fun σ H Q => ∃ (P : Addr → Prop) (env : List Sl) (o : Option Int) (env' : List Sl), Rel K c P σ H env ∧ f env = some (o, env') ∧
  ∀ (P' : Addr → Prop) (H' : Hp), Rel K c P' σ H' env' → Stp P H P' H' → Q o H'
abbrev SO (X : Cx) (c : Cn) (e : Option Expr) (f : Of) : Prop := PO X e (tO X.K c f)
def oNone : Of := fun env => some (none, env)
def oSome (f : Sf) : Of := fun env => do
  let (r, e1) ← f env
  let d ← res e1 r
  match d with
  | .int i => some (some i, e1)
  | _ => none
theorem impO {e : Option Expr} {t t' : TO} (h : PO X e t) (k : ∀ σ H Q, t' σ H Q → t σ H Q) : PO X e t' := ⟨fun pins s σ H Q I q => h.run pins s σ H Q I (k _ _ _ q)⟩
theorem so_none : SO X c none oNone := by
  refine impO po_none fun σ H Q ⟨P, env, o, env', R0, e, k⟩ => ?_
  cases e
  exact k P H R0 (Stp.refl _ _)
theorem so_some (h : SE X c a f) : SO X c (some a) (oSome f) := by
  refine impO (po_some h) fun σ H Q ⟨P, env, o, env', R0, e, k⟩ => ?_
  simp only [oSome, Option.bind_eq_bind, Option.bind_eq_some_iff] at e
  obtain ⟨⟨r, e1⟩, k1, d, k2, k3⟩ := e
  dsimp only at k3
  split at k3
  · cases k3
    refine ⟨P, env, r, _, R0, k1, fun v P1 H1 R1 s1 q1 => ⟨_, (R1.res q1 k2).int, k P1 H1 R1 s1⟩⟩
  · cases k3
def cutD (ds : List PyData) (lo hi : Option Int) : List PyData := (ds.drop (HT.sIx ds.length 0 lo)).take (HT.sIx ds.length ds.length hi - HT.sIx ds.length 0 lo)
theorem DqAll.cut {H : Hp} {xs : List V} {ds : List PyData} (h : DqAll K H xs ds) (lo hi : Option Int) : DqAll K H (cutV xs lo hi) (cutD ds lo hi) := by
  unfold cutV cutD
  rw [h.len]
  exact (h.drop _).take _
theorem cutD_len (ds : List PyData) (lo hi : Option Int) : (cutD ds lo hi).length ≤ ds.length := by
  unfold cutD
  rw [List.length_take, List.length_drop]
  omega
def sliceD (d : PyData) (lo hi : Option Int) : Option PyData := match d with
  | .list ds => some (.list (cutD ds lo hi))
  | .tuple ds => some (.tuple (cutD ds lo hi))
  | _ => none
def fSl (f : Sf) (lo hi : Of) : Sf := fun env => do
  let (r, e1) ← f env
  let (l, e2) ← lo e1
  let (h, e3) ← hi e2
  let d ← res e3 r
  let x ← sliceD d l h
  pure (.d x, e3)
theorem rel_two {f : Sf} {lo hi : Of} {σ : St} {H : Hp} {P : Addr → Prop} {env : List Sl} {r : R} {e1 e2 e3 : List Sl} {l h : Option Int} (R0 : Rel K c P σ H env) (k1 : f env = some (r, e1)) (k2 : lo e1 = some (l, e2)) (k3 : hi e2 = some (h, e3)) {q : V → Option Int → Option Int → Hp → Prop}
    (k : ∀ (v : V) (P3 : Addr → Prop) (H3 : Hp), Rel K c P3 σ H3 e3 → Stp P H P3 H3 → RelT K P3 σ H3 v r → q v l h H3) : tE K c f σ H fun x H1 => tO K c lo σ H1 fun l H2 => tO K c hi σ H2 fun u H3 => q x l u H3 :=
  ⟨P, env, r, e1, R0, k1, fun v P1 H1 R1 s1 q1 => ⟨P1, e1, l, e2, R1, k2, fun P2 H2 R2 s2 => ⟨P2, e2, h, e3, R2, k3, fun P3 H3 R3 s3 => k v P3 H3 R3 (s1.trans (s2.trans s3)) (q1.step (s2.trans s3))⟩⟩⟩
variable {lo hi : Option Expr} {fl fh : Of} {p2 pos : Pos}
theorem se_slice (ha : SE X c a f) (hl : SO X c lo fl) (hh : SO X c hi fh) : SE X c (.Subscript a (.Slice lo hi none p2) pos) (fSl f fl fh) := by
  refine imp (pe_slice (sl_list.or sl_tupA) ha hl hh) fun σ H Q ⟨P, env, r, env', R0, e, k⟩ => ?_
  simp only [fSl, Option.bind_eq_bind, Option.bind_eq_some_iff, Option.pure_def, Option.some.injEq] at e
  obtain ⟨⟨r1, e1⟩, k1, ⟨l, e2⟩, k2, ⟨h, e3⟩, k3, d, k4, x, k5, k6⟩ := e
  cases k6
  refine rel_two R0 k1 k2 k3 fun v P1 H1 R1 s1 q1 => ?_
  have da := R1.res q1 k4
  cases d with
  | list ds =>
    cases k5
    obtain ⟨a, xs, rfl, hs, hz, hq⟩ := da.lst
    refine .inl ⟨a, xs, rfl, hs, fun p hp => ?_⟩
    have s3 := upd_ext (o := .lst (cutV xs l h)) hp
    exact k _ P1 _ (R1.same s3) (s1.trans (hid_same s3)) (.lst (SqL.of (hid_some.mpr ⟨R1.fresh hp, upd_same⟩)) (Nat.le_trans (cutD_len _ _ _) hz) ((hq.cut l h).mono (hid_same s3)))
  | tuple ds =>
    cases k5
    obtain ⟨a, xs, rfl, hs, hz, hq⟩ := da.tup
    refine .inr ⟨a, xs, rfl, same_sqT (hid_sub _ _) hs, fun hw => ?_, fun _ p hp => ?_⟩
    · have e : cutD ds l h = ds := by
        unfold cutD
        rw [← hq.len, hw.1, hw.2]
        simp [hq.len]
      refine k _ P1 _ R1 s1 ?_
      rw [e]
      exact .tup hs hz hq
    · have s3 := upd_ext (o := .tup (cutV xs l h)) hp
      exact k _ P1 _ (R1.same s3) (s1.trans (hid_same s3)) (.tup (SqT.of (hid_some.mpr ⟨R1.fresh hp, upd_same⟩)) (Nat.le_trans (cutD_len _ _ _) hz) ((hq.cut l h).mono (hid_same s3)))
  | _ => cases k5
def fSlF (f : Sf) (lo hi : Of) : Ff := fun env => do
  let (r, e1) ← f env
  let (l, e2) ← lo e1
  let (h, e3) ← hi e2
  let d ← res e3 r
  match d with
  | .list ds => some (cutD ds l h, e3)
  | _ => none
theorem sf_slice (ha : SE X c a f) (hl : SO X c lo fl) (hh : SO X c hi fh) : SF X c (.Subscript a (.Slice lo hi none p2) pos) (fSlF f fl fh) := by
  refine imp (pe_slice sl_list ha hl hh) fun σ H Q ⟨P, env, r, env', R0, e, k⟩ => ?_
  simp only [fSlF, Option.bind_eq_bind, Option.bind_eq_some_iff] at e
  obtain ⟨⟨r1, e1⟩, k1, ⟨l, e2⟩, k2, ⟨h, e3⟩, k3, d, k4, k5⟩ := e
  dsimp only at k5
  split at k5
  · cases k5
    refine rel_two R0 k1 k2 k3 fun v P1 H1 R1 s1 q1 => ?_
    obtain ⟨a, xs, rfl, hs, hz, hq⟩ := (R1.res q1 k4).lst
    exact ⟨a, xs, rfl, hs, fun p hp => k p _ P1 H1 R1 s1 (hq.cut l h) (Nat.le_trans (cutD_len _ _ _) hz) hp⟩
  · cases k5
end
end L2.Lp

set_option Elab.async false
set_option linter.all false
set_option maxRecDepth 100000
set_option maxHeartbeats 4000000
/-! Lp20: dicts with int and text keys, as data: {k: v for ..}, k in d. -/
namespace L2.Lp
open PySem PySem.Spec L2
/-- the key in a dict -/
def keyOf? : PyData → Option Key
  | .int i => some (.inl i)
  | .str x => some (.inr x)
  | _ => none
def hasP (ps : List (PyData × PyData)) (k : Key) : Bool := ps.any fun p => decide (keyOf? p.1 = some k)
def putP (ps : List (PyData × PyData)) (k : Key) (x : PyData) : List (PyData × PyData) :=
  if hasP ps k = true then ps.map (fun p => if keyOf? p.1 = some k then (p.1, x) else p) else ps ++ [(keyD k, x)]
def getP (ps : List (PyData × PyData)) (k : Key) : Option PyData := match ps with
  | [] => none
  | p :: ps => if keyOf? p.1 = some k then some p.2 else getP ps k
theorem keyOf_D (k : Key) : keyOf? (keyD k) = some k := by cases k <;> rfl
theorem kv_hd {k k2 : Key} : (keyOf? (keyD k2) = some k) ↔ k2 = k := by
  rw [keyOf_D]
  exact ⟨fun e => Option.some.inj e, fun e => by rw [e]⟩
section
variable {X : Cx} {K : PySem.W.Frag} {H : Hp}
theorem DqKV.len : ∀ {kvs : List (Key × V)} {ps : List (PyData × PyData)}, DqKV K H kvs ps → kvs.length = ps.length
  | _, _, .nil => rfl
  | _, _, .cons _ t => by simp [t.len]
theorem DqKV.any {k : Key} : ∀ {kvs : List (Key × V)} {ps : List (PyData × PyData)}, DqKV K H kvs ps → (kvs.any fun kv => decide (kv.1 = k)) = hasP ps k
  | _, _, .nil => rfl
  | _, _, .cons _ t => by
    have ih := t.any (k := k)
    unfold hasP at ih ⊢
    rw [List.any_cons, List.any_cons, ih]
    simp only [kv_hd]
theorem DqKV.app : ∀ {kvs ls : List (Key × V)} {ps qs : List (PyData × PyData)}, DqKV K H kvs ps → DqKV K H ls qs → DqKV K H (kvs ++ ls) (ps ++ qs)
  | _, _, _, _, .nil, h => h
  | _, _, _, _, .cons a t, h => .cons a (t.app h)
theorem DqKV.map {k : Key} {v : V} {x : PyData} (q : Dq K H v x) : ∀ {kvs : List (Key × V)} {ps : List (PyData × PyData)}, DqKV K H kvs ps → DqKV K H (kvs.map fun kv => if kv.1 = k then (kv.1, v) else kv) (ps.map fun p => if keyOf? p.1 = some k then (p.1, x) else p)
  | _, _, .nil => .nil
  | _, _, .cons (k := k2) a t => by
    rw [List.map_cons, List.map_cons]
    by_cases e : k2 = k
    · rw [if_pos e, if_pos (kv_hd.mpr e)]
      exact .cons q (t.map q)
    · rw [if_neg e, if_neg (fun z => e (kv_hd.mp z))]
      exact .cons a (t.map q)
theorem DqKV.put {k : Key} {v : V} {x : PyData} {kvs : List (Key × V)} {ps : List (PyData × PyData)} (h : DqKV K H kvs ps) (q : Dq K H v x) : DqKV K H (putK kvs k v) (putP ps k x) := by
  unfold putK putP
  rw [h.any]
  split
  · exact h.map q
  · exact h.app (.cons q .nil)
theorem DqKV.get {k : Key} : ∀ {kvs : List (Key × V)} {ps : List (PyData × PyData)}, DqKV K H kvs ps → (valV kvs k = none ∧ getP ps k = none) ∨ ∃ v d, valV kvs k = some v ∧ getP ps k = some d ∧ Dq K H v d
  | _, _, .nil => .inl ⟨rfl, rfl⟩
  | _, _, .cons (k := k2) a t => by
    unfold getP
    by_cases e : k2 = k
    · rw [valV_pos (p := (k2, _)) e, if_pos (kv_hd.mpr e)]
      exact .inr ⟨_, _, rfl, rfl, a⟩
    · rw [valV_neg (p := (k2, _)) e, if_neg (fun z => e (kv_hd.mp z))]
      exact t.get
theorem Da.dic {P : Addr → Prop} {v : V} {ps : List (PyData × PyData)} (h : Da K P H v (.dict ps)) : ∃ a kvs, v = .ref a ∧ H a = some (.dK kvs) ∧ DqKV K (hid P H) kvs ps := by
  rcases h with h | ⟨a, rfl, _, h⟩
  · cases h with
    | dic h q => exact ⟨_, _, rfl, hid_sub _ _ _ _ h, q⟩
  · obtain ⟨kvs, e, q⟩ := h
    exact ⟨a, kvs, rfl, e, q⟩
theorem Da.key {P : Addr → Prop} {v : V} {d : PyData} {k : Key} (h : Da K P H v d) (e : keyOf? d = some k) : v = kV k := by
  cases d <;> cases e
  · exact h.int
  · exact h.str
/-! ### k in d -/
def rInDic (neg : Bool) : R2 := fun y x H Q => ∃ a o, x = .ref a ∧ DGet H a y o ∧ Q (.bl (neg ^^ o.isSome)) H
theorem op_inDic (hu : X.A.units + 1 < cLine) : OpR X (compareOp .In) (rInDic false) := by
  intro pins s σ H y x v u Q I ry rx ⟨a, o, e, g, q⟩
  subst e
  cases rx
  refine d_in hu I g ry fun s3 I3 => ⟨.bl o.isSome, H, I3, rfl, ?_⟩
  rw [Bool.false_xor] at q
  exact q
theorem op_notInDic (hu : X.A.units + 1 < cLine) : OpR X (compareOp .NotIn) (rInDic true) := by
  intro pins s σ H y x v u Q I ry rx ⟨a, o, e, g, q⟩
  subst e
  cases rx
  refine d_notIn hu I g ry fun s3 I3 => ⟨.bl (!o.isSome), H, I3, rfl, ?_⟩
  rw [Bool.true_xor] at q
  exact q
def gInDic (neg : Bool) (d c : PyData) : Option PyData := do
  let k ← keyOf? d
  match c with
  | .dict ps => some (.bool (neg ^^ (getP ps k).isSome))
  | _ => none
theorem opg_inDic {neg : Bool} : OpG K (rInDic neg) (gInDic neg) := by
  intro x y H P d1 d2 d Q q1 q2 pt e k
  simp only [gInDic, Option.bind_eq_bind, Option.bind_eq_some_iff] at e
  obtain ⟨ky, e1, e2⟩ := e
  split at e2
  · rename_i ps
    cases e2
    obtain ⟨a, kvs, rfl, h, qq⟩ := q2.dic
    refine ⟨a, valV kvs ky, rfl, .inl ⟨kvs, ky, .inl h, q1.key e1, rfl⟩, ?_⟩
    have same_ : (valV kvs ky).isSome = (getP ps ky).isSome := by
      rcases qq.get (k := ky) with ⟨h1, h2⟩ | ⟨v, d, h1, h2, _⟩
      · rw [h1, h2]
        rfl
      · rw [h1, h2]
        rfl
    rw [same_]
    exact k.now (.bl _)
  · cases e2
/-- in, not in: of a list, a tuple, a dict -/
def rInB (K : PySem.W.Frag) (neg : Bool) : R2 := fun x y H Q => rInS K neg x y H Q ∨ rInDic neg x y H Q
def gInB (neg : Bool) : PyData → PyData → Option PyData := fun a b => (gIn neg a b).or (gInDic neg a b)
theorem opg_inB {neg : Bool} : OpG K (rInB K neg) (gInB neg) := OpG.or opg_in opg_inDic
theorem op_inB (hu : X.A.units + 65 < cLine) : OpR X (compareOp .In) (rInB X.K false) := (op_inS hu).or (op_inDic (by omega))
theorem op_notInB (hu : X.A.units + 65 < cLine) : OpR X (compareOp .NotIn) (rInB X.K true) := (op_notInS hu).or (op_notInDic (by omega))
end
/-! ### dicts that are made here -/
abbrev Df := List Sl → Option (List (PyData × PyData) × List Sl)
def tD (K : PySem.W.Frag) (c : Cn) (f : Df) : TE := fun σ H Q => ∃ (P : Addr → Prop) (env : List Sl) (ps : List (PyData × PyData)) (env' : List Sl), Rel K c P σ H env ∧ f env = some (ps, env') ∧
  ∀ (p : Addr) (kvs : List (Key × V)) (P' : Addr → Prop) (H' : Hp), Rel K c P' σ H' env' → Stp P H P' H' → DqKV K (hid P' H') kvs ps → H' p = none → Q (.ref p) (upd H' p (.dK kvs))
abbrev SD (X : Cx) (c : Cn) (e : Expr) (f : Df) : Prop := PE X e (tD X.K c f)
def fD (f : Df) : Sf := fun env => do
  let (ps, e1) ← f env
  pure (.d (.dict ps), e1)
section
variable {X : Cx} {c : Cn} {e : Expr} {pos : Pos}
theorem se_fd {f : Df} (h : SD X c e f) : SE X c e (fD f) := by
  refine imp h fun σ H Q ⟨P, env, r, env', R0, q, k⟩ => ?_
  simp only [fD, Option.bind_eq_bind, Option.bind_eq_some_iff, Option.pure_def, Option.some.injEq] at q
  obtain ⟨⟨ps, e1⟩, k1, k2⟩ := q
  cases k2
  refine ⟨P, env, ps, e1, R0, k1, fun p kvs P1 H1 R1 s1 q1 hp => ?_⟩
  have s3 := upd_ext (o := .dK kvs) hp
  exact k _ P1 _ (R1.same s3) (s1.trans (hid_same s3)) (.dic (hid_some.mpr ⟨R1.fresh hp, upd_same⟩) (q1.mono (hid_same s3)))
def fOwnD (i : Nat) (f : Df) : Ss := fun env => do
  let (ps, e1) ← f env
  pure (.nx (e1.set i (.mu false (.dict ps))))
theorem ss_ownD {i : Nat} {x : Str} {f : Df} {pos' : Pos} (hN : X.N.Nodup) (hi : X.N[i]? = some x) (hx : Loc X.env.scope x) (he : SD X c e f) (hs : swapsWith e (some (.Name x pos')) pos.line X.env = pure false := by rfl) (hf : X.fn x = true ∨ X.env.scope.names.lookup x = some .local := by first | exact .inl rfl | exact .inr rfl | assumption) :
    SS X c (.Assign [.Name x pos'] e pos) (fOwnD i f) := by
  refine impS (ps_set hN hi hx he hs hf) fun D σ H ⟨P, env, o, R0, q, k⟩ => ?_
  simp only [fOwnD, Option.bind_eq_bind, Option.bind_eq_some_iff, Option.pure_def, Option.some.injEq] at q
  obtain ⟨⟨ps, e1⟩, k1, k2⟩ := q
  subst k2
  refine ⟨P, env, ps, e1, R0, k1, fun p kvs P1 H1 R1 s1 q1 hp => ?_⟩
  exact k _ _ _ (R1.ownO hp ⟨kvs, upd_same, q1.mono (hid_push hp)⟩) (s1.trans (hid_push hp))
end
/-! ### {k: v for target in iter if ..} -/
def loopDc (vs : List Nat) (fg : Gf) (ft : Tf) (fk fv : Sf) : List PyData → List Sl → List (PyData × PyData) → Option (List (PyData × PyData) × List Sl)
  | [], env, ps => some (ps, env)
  | d :: ds, env, ps => do
    let e1 ← fg d env
    let (b, e2) ← ft e1
    if b then do
      let (rk, e3) ← fk e2
      let (rv, e4) ← fv e3
      let dk ← res e4 rk
      let k ← keyOf? dk
      let (x, e5) ← fz e4 rv
      loopDc vs fg ft fk fv ds (wipeE e5 vs) (putP ps k x)
    else loopDc vs fg ft fk fv ds (wipeE e2 vs) ps
def fDc (vs : List Nat) (fi : Ff) (fg : Gf) (ft : Tf) (fk fv : Sf) : Df := fun env => do
  let (ds, e1) ← fi env
  let (out, e2) ← loopDc vs fg ft fk fv ds (wipeE e1 vs) []
  pure (out, restE e1 e2 vs)
section
variable {X : Cx} {c : Cn} {kx vx tg iter : Expr} {ifs : List Expr} {scope : Scope} {own : List (Str × Nat)} {pos : Pos} {fi : Ff} {g : TG} {fg : Gf} {ts : List Nat} {ft : Tf} {fk fv : Sf}
theorem wipe_two (σ : St) (vs : List Nat) : wipe (wipe σ vs) vs = wipe σ vs := by
  have at_ : ∀ (τ : St) (j : Nat) (us : List Nat), j ∈ us → (wipe τ us)[j]? = if j < τ.length then some none else none := by
    intro τ j us
    induction us with
    | nil => exact fun h => nomatch h
    | cons u us ih =>
      intro hu
      show ((wipe τ us).set u none)[j]? = _
      by_cases hju : u = j
      · subst hju
        rw [List.getElem?_set]
        simp only [if_true, wipe_length]
      · rw [List.getElem?_set_ne hju]
        exact ih ((List.mem_cons.mp hu).resolve_left fun z => hju z.symm)
  apply List.ext_getElem?
  intro j
  by_cases hj : j ∈ vs
  · rw [at_ _ _ _ hj, at_ _ _ _ hj, wipe_length]
  · rw [L2.wipe_out hj]
theorem dc_sem (hgf : GOk X.K ts g fg) (hts : ∀ i ∈ ts, i ∈ own.map (·.2)) {σ : St} {H : Hp} {Q : VK} (h : tD X.K c (fDc (own.map (·.2)) fi fg ft fk fv) σ H Q) {tt : TT} {tk tv : TE}
    (htt : ∀ c' σ H Q, tT X.K c' ft σ H Q → tt σ H Q) (htk : ∀ c' σ H Q, tE X.K c' fk σ H Q → tk σ H Q) (htv : ∀ c' σ H Q, tE X.K c' fv σ H Q → tv σ H Q) : tDc (tI X.K c fi) g tt tk tv (own.map (·.2)) σ H Q := by
  obtain ⟨P, env, out, env', R0, q, k⟩ := h
  simp only [fDc, Option.bind_eq_bind, Option.bind_eq_some_iff, Option.pure_def, Option.some.injEq] at q
  obtain ⟨⟨ds, e1⟩, k1, ⟨out2, e2⟩, k2, k3⟩ := q
  cases k3
  refine ⟨P, env, ds, e1, R0, k1, fun J P1 H1 R1 s1 hJ hlen D hD => ?_⟩
  obtain ⟨h00, hb0⟩ := R1.new0 hD
  generalize hvs : own.map (·.2) = vs at *
  let In : Nat → Hp → Prop := fun i H => ∃ (P : Addr → Prop) (kvs : List (Key × V)) (ps : List (PyData × PyData)) (en : List Sl), Rel X.K (c.wth D (.dK kvs)) P σ H (wipeE en vs) ∧ Stp P1 H1 P H ∧ DqKV X.K (hid P H) kvs ps ∧ kvs.length ≤ i ∧
    loopDc vs fg ft fk fv (ds.drop i) (wipeE en vs) ps = some (out2, e2)
  refine ⟨fun i m H => m = ds.length - i ∧ i ≤ ds.length ∧ In i H, ⟨ds.length, by simp, Nat.zero_le _, _, [], [], e1, R1.wiped.push hD, hid_push hD, .nil, Nat.le_refl _, by simpa using k2⟩, ?_⟩
  rintro i m H2 ⟨rfl, hi, P2, kvs, ps, en, R2, st2, qa, la, hl⟩
  obtain ⟨hDat, pD⟩ := R2.at
  have hit := hJ P2 H2 st2 R2.pt i
  by_cases hlt : i < ds.length
  · obtain ⟨hgo, hy⟩ := hit.1 _ (List.getElem?_eq_getElem hlt)
    refine .inr ⟨hgo, In (i + 1), fun H' n => ⟨ds.length - (i + 1), by omega, rfl, hlt, n⟩, fun x H3 hx => ?_⟩
    obtain ⟨s3, q3⟩ := hy x H3 hx
    have R3 := R2.same s3
    rw [List.drop_eq_getElem_cons hlt] at hl
    simp only [loopDc, Option.bind_eq_bind, Option.bind_eq_some_iff] at hl
    obtain ⟨g1, l1, ⟨b, g2⟩, l2, l3⟩ := hl
    refine hgf (c.wth D (.dK kvs)) x _ (wipe σ vs) H3 P2 _ g1 _ R3.wipe_in q3 l1 fun σ2 R4 w4 => ?_
    have hw : wipe σ2 vs = wipe σ vs := (w4 vs hts).trans (wipe_two σ vs)
    refine ⟨hw, htt (c.wth D (.dK kvs)) σ2 H3 _ ⟨P2, g1, b, g2, R4, l2, fun P5 H5 R5 s5 => ?_⟩⟩
    have st5 : Stp P1 H1 P5 H5 := st2.trans ((hid_same s3 : Same (hid P2 H2) (hid P2 H3)).trans s5)
    have qa5 : DqKV X.K (hid P5 H5) kvs ps := (qa.mono (hid_same s3)).mono s5
    cases b with
    | false =>
      simp only [Bool.false_eq_true, if_false] at l3
      exact iteF ⟨P5, kvs, ps, g2, R5.wipe_out hw, st5, qa5, Nat.le_succ_of_le la, l3⟩
    | true =>
      simp only [if_true] at l3
      refine iteT ?_
      simp only [Option.bind_eq_some_iff] at l3
      obtain ⟨⟨rk, g3⟩, l4, ⟨rv, g4⟩, l5, dk, l6, ky, l7, ⟨y, g5⟩, l8, l9⟩ := l3
      refine htk (c.wth D (.dK kvs)) σ2 H5 _ ⟨P5, g2, rk, g3, R5, l4, fun v P6 H6 R6 s6 q6 => htv (c.wth D (.dK kvs)) σ2 H6 _ ⟨P6, g3, rv, g4, R6, l5, fun u P7 H7 R7 s7 q7 => ?_⟩⟩
      have hk := (R7.res (q6.step s7) l6).key l7
      obtain ⟨P8, R8, s8, q8⟩ := R7.fz q7 l8
      obtain ⟨hDat8, pD8⟩ := R8.at
      refine ⟨kvs, ky, hk, hDat8, Nat.lt_of_lt_of_le (Nat.lt_of_le_of_lt la hlt) hlen, P8, putK kvs ky u, putP ps ky y, g5, (R8.wipe_out hw).next, ?_, ?_, Nat.le_trans (length_putK _ _ _) (by omega), l9⟩
      · exact (st5.trans (s6.trans (s7.trans s8))).trans (hid_upd pD8)
      · exact ((((qa5.mono s6).mono s7).mono s8).put q8).mono (hid_upd pD8)
  · have e : i = ds.length := by omega
    subst e
    rw [List.drop_length] at hl
    cases hl
    refine .inl ⟨hit.2 rfl, ?_⟩
    have hR := R2.pop h00 hb0
    have hk := k D kvs (fun a => P2 a ∧ a ≠ D) (del H2 D) (R1.rest (st2.trans (hid_pop pD)) hR) ((s1.trans st2).trans (hid_pop pD)) (qa.mono (hid_pop pD)) del_at
    rw [upd_del hDat] at hk
    exact hk
theorem sd_dc (hc : X.calm = true) (hN : X.N.Nodup) (hi : SI X c tg iter fi) (ok : BlkOk X.N X.env.scope scope own) (hgf : GOk X.K ts g fg) (hts : ∀ i ∈ ts, i ∈ own.map (·.2))
    (hg : ∀ (s : Shared) (H : Hp) (C : Addr) (cl : List (Str × Addr)) (fp : List Addr), PG (X.blk s H scope (compEnvC scope cl C X.env) fp) tg g)
    (ht : ∀ (c : Cn) (s : Shared) (H : Hp) (C : Addr) (cl : List (Str × Addr)) (fp : List Addr), PTs (X.blk s H scope (compEnvC scope cl C X.env) fp) ifs (tT X.K c ft))
    (hk : ∀ (c : Cn) (s : Shared) (H : Hp) (C : Addr) (cl : List (Str × Addr)) (fp : List Addr), SE (X.blk s H scope (compEnvC scope cl C X.env) fp) c kx fk)
    (hv : ∀ (c : Cn) (s : Shared) (H : Hp) (C : Addr) (cl : List (Str × Addr)) (fp : List Addr), SE (X.blk s H scope (compEnvC scope cl C X.env) fp) c vx fv) (hs : ∀ x, foldedSetIterable iter X.env x = pure x := by intro _; rfl) :
    SD X c (.DictComp kx vx [⟨tg, iter, ifs, 0⟩] scope pos) (fDc (own.map (·.2)) fi fg ft fk fv) := by
  refine imp (pe_dc (tt := fun σ H Q => ∃ c', tT X.K c' ft σ H Q) (tk := fun σ H Q => ∃ c', tE X.K c' fk σ H Q) (tv := fun σ H Q => ∃ c', tE X.K c' fv σ H Q) hc hN hi ok hg (fun s H C cl fp => ⟨fun pins s1 σ H1 Q I ⟨c', q⟩ => (ht c' s H C cl fp).run pins s1 σ H1 Q I q⟩)
    (fun s H C cl fp => ⟨fun pins s1 σ H1 Q I ⟨c', q⟩ => (hk c' s H C cl fp).run pins s1 σ H1 Q I q⟩) (fun s H C cl fp => ⟨fun pins s1 σ H1 Q I ⟨c', q⟩ => (hv c' s H C cl fp).run pins s1 σ H1 Q I q⟩) hs) fun σ H Q h => ?_
  exact dc_sem hgf hts h (fun c' σ H Q q => ⟨c', q⟩) (fun c' σ H Q q => ⟨c', q⟩) (fun c' σ H Q q => ⟨c', q⟩)
end
end L2.Lp

set_option Elab.async false
set_option linter.all false
set_option maxRecDepth 100000
set_option maxHeartbeats 4000000
/-! Lp21: truth of data, or and and by truth; stores into owned lists and dicts, append. -/
namespace L2.Lp
open PySem PySem.Spec L2
def truD : PyData → Option Bool
  | .none => some false
  | .bool b => some b
  | .int i => some (i != 0)
  | .str x => if x.length ≤ sizeLine then some ((x.length : Int) != 0) else none
  | .list ds => some (!ds.isEmpty)
  | .tuple ds => some (!ds.isEmpty)
  | .dict ps => some (!ps.isEmpty)
section
variable {X : Cx} {K : PySem.W.Frag} {c : Cn} {a b : Expr} {rest : List Expr} {f fa fb : Sf} {pos : Pos}
theorem Da.tru {P : Addr → Prop} {H : Hp} {v : V} {d : PyData} {k : Bool} (h : Da K P H v d) (e : truD d = some k) : TruV K v H k := by
  cases d with
  | none =>
    cases e
    rw [h.none]
    rfl
  | bool b =>
    cases e
    rw [h.bool]
    rfl
  | int i =>
    cases e
    rw [h.int]
    rfl
  | str x =>
    rw [h.str]
    simp only [truD] at e
    split at e
    · rename_i hl
      cases e
      exact ⟨hl, rfl⟩
    · cases e
  | list ds =>
    cases e
    obtain ⟨a, xs, rfl, hs, _, hq⟩ := h.lst
    exact .inl ⟨xs, hs, by cases hq <;> rfl⟩
  | tuple ds =>
    cases e
    obtain ⟨a, xs, rfl, hs, _, hq⟩ := h.tup
    exact .inr (.inl ⟨xs, same_sqT (hid_sub _ _) hs, by cases hq <;> rfl⟩)
  | dict ps =>
    cases e
    obtain ⟨a, kvs, rfl, hs, hq⟩ := h.dic
    exact .inr (.inr ⟨kvs, hs, by cases hq <;> rfl⟩)
def fT (f : Sf) : Tf := fun env => do
  let (r, e1) ← f env
  let d ← res e1 r
  let b ← truD d
  pure (b, e1)
theorem st_tru (h : SE X c a f) (he : ∀ whole, isTrue a X.env whole = (do let v ← whole; standAt a.pos; holding [v] (truthy v)) := by intro _; rfl) : ST X c a (fT f) := by
  refine impT (pt_truth h he) fun σ H Q ⟨P, env, b, env', R0, e, k⟩ => ?_
  simp only [fT, Option.bind_eq_bind, Option.bind_eq_some_iff, Option.pure_def, Option.some.injEq] at e
  obtain ⟨⟨r, e1⟩, k1, d, k2, b1, k3, k4⟩ := e
  cases k4
  exact ⟨P, env, r, e1, R0, k1, fun v P1 H1 R1 s1 q1 => ⟨b, (R1.res q1 k2).tru k3, k P1 H1 R1 s1⟩⟩
def fNotT (f : Sf) : Sf := fV (fNot (fT f))
theorem se_notT (h : SE X c a f) : SE X c (.UnaryOp .Not a pos) (fNotT f) := by
  refine imp (pe_notT h) fun σ H Q ⟨P, env, r, env', R0, e, k⟩ => ?_
  simp only [fNotT, fV, fNot, fT, Option.bind_eq_bind, Option.bind_eq_some_iff, Option.pure_def, Option.some.injEq] at e
  obtain ⟨⟨b, e1⟩, ⟨⟨b1, e2⟩, ⟨⟨r1, e3⟩, k1, d, k2, b2, k3, k4⟩, k5⟩, k6⟩ := e
  cases k4
  cases k5
  cases k6
  exact ⟨P, env, r1, _, R0, k1, fun v P1 H1 R1 s1 q1 => ⟨b1, (R1.res q1 k2).tru k3, k _ P1 H1 R1 s1 (.bl _)⟩⟩
def fOrT (fa fb : Sf) : Sf := fun env => do
  let (r, e1) ← fa env
  let d ← res e1 r
  let b ← truD d
  if b then some (r, e1) else fb e1
def fAndT (fa fb : Sf) : Sf := fun env => do
  let (r, e1) ← fa env
  let d ← res e1 r
  let b ← truD d
  if b then fb e1 else some (r, e1)
theorem se_orT (ha : SE X c a fa) (hb : SE X c (.BoolOp .Or (b :: rest) pos) fb) : SE X c (.BoolOp .Or (a :: b :: rest) pos) (fOrT fa fb) := by
  refine imp (pe_orT ha hb) fun σ H Q ⟨P, env, r, env', R0, e, k⟩ => ?_
  simp only [fOrT, Option.bind_eq_bind, Option.bind_eq_some_iff] at e
  obtain ⟨⟨r1, e1⟩, k1, d, k2, b1, k3, k4⟩ := e
  refine ⟨P, env, r1, e1, R0, k1, fun v P1 H1 R1 s1 q1 => ⟨b1, (R1.res q1 k2).tru k3, ?_⟩⟩
  cases b1 with
  | true =>
    cases k4
    exact k v P1 H1 R1 s1 q1
  | false => exact ⟨P1, e1, r, env', R1, k4, fun u P2 H2 R2 s2 => k u P2 H2 R2 (s1.trans s2)⟩
theorem se_andT (ha : SE X c a fa) (hb : SE X c (.BoolOp .And (b :: rest) pos) fb) : SE X c (.BoolOp .And (a :: b :: rest) pos) (fAndT fa fb) := by
  refine imp (pe_andT ha hb) fun σ H Q ⟨P, env, r, env', R0, e, k⟩ => ?_
  simp only [fAndT, Option.bind_eq_bind, Option.bind_eq_some_iff] at e
  obtain ⟨⟨r1, e1⟩, k1, d, k2, b1, k3, k4⟩ := e
  refine ⟨P, env, r1, e1, R0, k1, fun v P1 H1 R1 s1 q1 => ⟨b1, (R1.res q1 k2).tru k3, ?_⟩⟩
  cases b1 with
  | false =>
    cases k4
    exact k v P1 H1 R1 s1 q1
  | true => exact ⟨P1, e1, r, env', R1, k4, fun u P2 H2 R2 s2 => k u P2 H2 R2 (s1.trans s2)⟩
def fOrF (fa fb : Ff) : Ff := fun env => do
  let (ds, e1) ← fa env
  if ds.isEmpty then fb e1 else some (ds, e1)
theorem sf_or1 {op : BoolOp} {f : Ff} (h : SF X c a f) : SF X c (.BoolOp op [a] pos) f := pe_one h
theorem sf_or {fa fb : Ff} (ha : SF X c a fa) (hb : SF X c (.BoolOp .Or (b :: rest) pos) fb) : SF X c (.BoolOp .Or (a :: b :: rest) pos) (fOrF fa fb) := by
  refine imp (pe_orT ha hb) fun σ H Q ⟨P, env, r, env', R0, e, k⟩ => ?_
  simp only [fOrF, Option.bind_eq_bind, Option.bind_eq_some_iff] at e
  obtain ⟨⟨ds, e1⟩, k1, k2⟩ := e
  refine ⟨P, env, ds, e1, R0, k1, fun p xs P1 H1 R1 s1 q1 l1 hp => ⟨!ds.isEmpty, .inl ⟨xs, SqL.of upd_same, by cases q1 <;> rfl⟩, ?_⟩⟩
  cases he : ds.isEmpty with
  | false =>
    simp only [he, Bool.false_eq_true, if_false] at k2
    cases k2
    exact k p xs P1 H1 R1 s1 q1 l1 hp
  | true =>
    simp only [he, if_true] at k2
    have s3 := upd_ext (o := .lst xs) hp
    exact ⟨P1, e1, r, env', R1.same s3, k2, fun p2 xs2 P2 H2 R2 s2 => k p2 xs2 P2 H2 R2 ((s1.trans (hid_same s3)).trans s2)⟩
end
/-! ### x[i] = e, x an owned list or dict -/
def putL (ds : List PyData) (i d : PyData) : Option PyData := match i with
  | .int k => (ixN ds.length k).map fun j => .list (ds.set j d)
  | _ => none
def putQ (ps : List (PyData × PyData)) (i d : PyData) : Option PyData := if ps.length < sizeLine then (keyOf? i).map fun k => .dict (putP ps k d) else none
def putD (o i d : PyData) : Option PyData := match o with
  | .list ds => putL ds i d
  | .dict ps => putQ ps i d
  | _ => none
/-- a slot that owns -/
def muAt (j : Nat) (env : List Sl) : Option (Bool × PyData) := match env[j]? with
  | some (.mu b o) => some (b, o)
  | _ => none
theorem muAt_some {j : Nat} {env : List Sl} {q : Bool × PyData} (h : muAt j env = some q) : env[j]? = some (.mu q.1 q.2) := by
  unfold muAt at h
  split at h
  · cases h
    assumption
  · cases h
def storeD (j : Nat) (i d : PyData) : Ss := fun env => match env[j]? with
  | some (.mu b o) => (putD o i d).map fun o' => .nx (env.set j (.mu b o'))
  | _ => none
def fPut (j : Nat) (fi f : Sf) : Ss := fun env => do
  let (r, e1) ← f env
  let (d, e2) ← fz e1 r
  let _ ← muAt j e2
  let (ri, e3) ← fi e2
  let i ← res e3 ri
  storeD j i d e3
section
variable {X : Cx} {K : PySem.W.Frag} {c : Cn} {i e : Expr} {fi f : Sf} {pos : Pos}
def rPut : TSet := fun o i v H Q => rSetL o i v H Q ∨ rSetD o i v H Q
theorem set_both (hu : X.A.units + 1 < cLine) : PSet X rPut := by
  intro pins s σ H o i v ov iv u Q I ro ri rv h
  rcases h with h | h
  · exact set_list pins s σ H o i v ov iv u Q I ro ri rv h
  · exact set_dict hu pins s σ H o i v ov iv u Q I ro ri rv h
/-- an owned object is written -/
theorem Rel.put {P : Addr → Prop} {σ : St} {H : Hp} {env : List Sl} {j : Nat} {a : Addr} {b : Bool} {o o' : PyData} {ob : HO} (R0 : Rel K c P σ H env) (hv : σ[j]? = some (some (V.ref a))) (he : env[j]? = some (Sl.mu b o)) (ho : OwnAt K P (upd H a ob) a o') :
    Rel K c P σ (upd H a ob) (env.set j (.mu b o')) ∧ Stp P H P (upd H a ob) := R0.back hv he (fun x q h n => by rw [upd_ne n]; exact h) ho
theorem ss_put {j : Nat} {x : Str} {p pos' : Pos} (hu : X.A.units + 1 < cLine) (hx : PE X (.Name x p) (tVar j)) (hi : SE X c i fi) (he : SE X c e f)
    (ha : ∀ v, assign (.Subscript (.Name x p) i pos') X.env v = (do
      let ov ← holding [v] (eval (.Name x p) X.env)
      let iv ← holding [v, ov] (eval i X.env)
      standAt pos'
      holding [v, ov, iv] (setItem ov iv v)
      release [v, ov, iv] []) := by intro _; rfl)
    (hs : swapsWithSole [.Subscript (.Name x p) i pos'] e pos.line X.env = pure false := by rfl) (hw : swappedStores [.Subscript (.Name x p) i pos'] e X.env = pure none := by rfl)
    (h1 : (assignEach [.Subscript (.Name x p) i pos'] X.env).map (·.2) = [assign (.Subscript (.Name x p) i pos') X.env] := by rfl) : SS X c (.Assign [.Subscript (.Name x p) i pos'] e pos) (fPut j fi f) := by
  refine impS (ps_asg he (pg_sub hx hi (set_both hu) ha) hs hw h1) fun D σ H ⟨P, env, o, R0, q, k⟩ => ?_
  simp only [fPut, Option.bind_eq_bind, Option.bind_eq_some_iff] at q
  obtain ⟨⟨r, e1⟩, k1, ⟨d, e2⟩, k2, ⟨bb, oo⟩, k8, ⟨ri, e3⟩, k3, di, k4, k5⟩ := q
  unfold storeD at k5
  split at k5
  · rename_i b o0 hj
    obtain ⟨o', k6, k7⟩ := Option.map_eq_some_iff.mp k5
    subst k7
    refine ⟨P, env, r, e1, R0, k1, fun v P1 H1 R1 s1 q1 => ?_⟩
    obtain ⟨P2, R2, s2, q2⟩ := R1.fz q1 k2
    -- the slot's object, known once the index is there
    have main : ∀ (y : V) (P3 : Addr → Prop) (H3 : Hp), Rel X.K c P3 σ H3 e3 → Stp P2 H1 P3 H3 → RelT X.K P3 σ H3 y ri → ∃ a, σ[j]? = some (some (V.ref a)) ∧ rPut (.ref a) y v H3 fun H4 => D.nx σ H4 := fun y P3 H3 R3 s3 q3 => by
      obtain ⟨a, a1, a2, a3, _⟩ := R3.mu j b o0 hj
      have dv := q2.mono s3
      have st : Stp P H P3 H3 := s1.trans (s2.trans s3)
      refine ⟨a, a1, ?_⟩
      cases o0 with
      | list ds =>
        change putL ds di d = some o' at k6
        unfold putL at k6
        split at k6
        · rename_i kk
          obtain ⟨j', h1, h2⟩ := Option.map_eq_some_iff.mp k6
          subst h2
          obtain ⟨hl, xs, hx1, hx2⟩ := a3
          refine .inl ⟨a, xs, kk, j', rfl, (R3.res q3 k4).int, hx1, by rw [hx2.len]; exact h1, ?_⟩
          obtain ⟨R4, s4⟩ := R3.put (ob := .lst (xs.set j' v)) a1 hj (o' := .list (ds.set j' d)) ⟨by rw [List.length_set]; exact hl, _, upd_same, (DqAll.set dv j' hx2).mono (hid_upd a2)⟩
          exact k σ P3 _ R4 (st.trans s4)
        · cases k6
      | dict ps =>
        change putQ ps di d = some o' at k6
        unfold putQ at k6
        split at k6
        · rename_i hlt
          obtain ⟨ky, h1, h2⟩ := Option.map_eq_some_iff.mp k6
          subst h2
          obtain ⟨kvs, hx1, hx2⟩ := a3
          refine .inr ⟨a, _, rfl, .inl ⟨kvs, ky, hx1, (R3.res q3 k4).key h1, by rw [hx2.len]; exact hlt, rfl⟩, ?_⟩
          obtain ⟨R4, s4⟩ := R3.put (ob := .dK (putK kvs ky v)) a1 hj (o' := .dict (putP ps ky d)) ⟨_, upd_same, (hx2.put dv).mono (hid_upd a2)⟩
          exact k σ P3 _ R4 (st.trans s4)
        · cases k6
      | _ => exact a3.elim
    obtain ⟨a, a1, _⟩ := R2.mu j bb oo (muAt_some k8)
    refine ⟨.ref a, a1, ⟨P2, e2, ri, e3, R2, k3, fun y P3 H3 R3 s3 q3 => ?_⟩⟩
    obtain ⟨a', b1, b2⟩ := main y P3 H3 R3 s3 q3
    rw [a1] at b1
    cases b1
    exact b2
  · cases k5
end
end L2.Lp

set_option Elab.async false
set_option linter.all false
set_option maxRecDepth 100000
set_option maxHeartbeats 4000000
/-! Lp22: calls that hand back new lists, a new list lent, append, d[k], d.get(k, x). -/
namespace L2.Lp
open PySem PySem.Spec L2
def fCallO (mask : List Bool) (F : Fn) (fs : List Sf) : Ff := fun env => do
  let (rs, e1) ← eA fs env
  let (ds, is, e2) ← argsD mask rs e1
  let (r, outs) ← F ds
  let e3 ← setOuts is outs e2
  match r with
  | .list xs => some (xs, e3)
  | _ => none
/-- a new list lent, the only argument -/
def fCallL (F : Fn) (f : Ff) : Sf := fun env => do
  let (ds, e1) ← f env
  let (r, _) ← F [.list ds]
  pure (.d r, e1)
section
variable {X : Cx} {c : Cn} {e : Expr} {es : List Expr} {fs : List Sf} {pos p : Pos} {k : Nat} {f : Addr} {fd : FuncData} {ps : List Str} {mask : List Bool} {F : Fn} {x : Str}
theorem callO_core {σ : St} {H : Hp} {Q : VK} {E : XK} (h : tF X.K c (fCallO mask F fs) σ H Q) : tA X.K c fs σ H fun vs H1 => spO X.K mask F vs H1 Q E := by
  obtain ⟨P, env, xs0, env', R0, q, kk⟩ := h
  simp only [fCallO, Option.bind_eq_bind, Option.bind_eq_some_iff] at q
  obtain ⟨⟨rs, e1⟩, k1, ⟨ds, is, e2⟩, k2, ⟨r, outs⟩, k3, e3, k4, k5⟩ := q
  cases r with
  | list zs =>
    cases k5
    refine ⟨P, env, rs, e1, R0, k1, fun vs P1 H1 R1 s1 q1 => ?_⟩
    obtain ⟨P2, as, R2, s2, A2, L2⟩ := argsD_rel R1 q1 k2
    refine ⟨P2, ds, as, _, outs, A2, R2.pt, k3, fun v H' keep hp ow ho => ?_⟩
    obtain ⟨hl, xs, hv, hq⟩ := ow
    have nP : ¬ P2 v := R2.fresh hp
    have back : H' = upd (del H' v) v (.lst xs) := (upd_del hv).symm
    have dn : ∀ y o, H1 y = some o → H' y = some o → del H' v y = some o := fun y o z1 z2 => by
      rw [del_ne (ne_of_none z1 hp)]
      exact z2
    have sq : Same (hid (fun y => P2 y ∨ y = v) H') (hid P2 (del H' v)) := fun b o z => by
      obtain ⟨z1, z2⟩ := hid_some.mp z
      refine hid_some.mpr ⟨fun m => z1 (.inl m), ?_⟩
      rw [del_ne fun m => z1 (.inr m)]
      exact z2
    match is, as, outs, L2, k4, ho with
    | [], [], [], _, k4, _ =>
      cases k4
      have s : Same H1 (del H' v) := fun b o z => dn b o z (keep b o z (by simp))
      rw [back]
      exact kk v xs P2 (del H' v) (R2.same s) (s1.trans (s2.trans (hid_same s))) (hq.mono sq) hl del_at
    | [i], [a], [d], ⟨hi, b, d0, he⟩, k4, ho =>
      simp only [setOuts, he, Option.some.injEq] at k4
      subst k4
      have pa : P2 a := (A2.own a (by simp)).1
      have na : a ≠ v := fun z => nP (z ▸ pa)
      have ho2 : OwnAt X.K P2 (del H' v) a d := OwnAt.move (P := fun y => P2 y ∨ y = v) (H := H') ho sq fun o z => by rw [del_ne na]; exact z
      obtain ⟨R3, s3⟩ := R2.back hi he (fun y o z n => dn y o z (keep y o z fun m => n (List.mem_singleton.mp m))) ho2
      rw [back]
      exact kk v xs P2 (del H' v) R3 (s1.trans (s2.trans s3)) (hq.mono sq) hl del_at
    | [], [], _ :: _, _, k4, _ => cases k4
    | [i], [a], [], _, k4, _ => cases k4
    | [i], [a], _ :: _ :: _, _, k4, _ => cases k4
  | _ => cases k5
theorem sf_callO (G : FnOk X.prog X.w X.K X.mg X.base CX0 k f fd ps (spO X.K mask F)) (hr : Room k X.A) (hg : Gl X x) (hm : X.mg x = some (.ref f)) (hk : PySem.W.keepIn X.K (.ref f) = true) (hb : Binds X.K fd ps [])
    (ha : SA X c (e :: es) fs) (hdb : (x == ("__debug__" : Str)) = false := by decide) (he : starEach (e :: es) X.env = (false, eval e X.env) :: starEach es X.env := by rfl) (hpl : (backTo pos (starEach es X.env)).any (·.1) = false := by rfl) :
    SF X c (.Call (.Name x p) (e :: es) [] pos) (fCallO mask F fs) :=
  imp (pe_call G hr hg hm hk hb .nil pass0 ha hdb he hpl) fun σ H Q h => by
    have q := callO_core (E := E0) h
    show tA X.K c fs σ H fun vs H1 => spO X.K mask F (vs ++ []) H1 Q E0
    simpa only [List.append_nil] using q
theorem se_callL {f' : Ff} (G : FnOk X.prog X.w X.K X.mg X.base CX0 k f fd ps (spD X.K [true] F)) (hr : Room k X.A) (hg : Gl X x) (hm : X.mg x = some (.ref f)) (hk : PySem.W.keepIn X.K (.ref f) = true) (hb : Binds X.K fd ps [])
    (ha : SF X c e f') (hdb : (x == ("__debug__" : Str)) = false := by decide) (he : starEach [e] X.env = (false, eval e X.env) :: starEach [] X.env := by rfl) (hpl : (backTo pos (starEach [] X.env)).any (·.1) = false := by rfl) :
    SE X c (.Call (.Name x p) [e] [] pos) (fCallL F f') := by
  refine imp (pe_call G hr hg hm hk hb .nil pass0 (pa_cons ha pa_nil he) hdb he hpl) fun σ H Q ⟨P, env, r0, env', R0, q, kk⟩ => ?_
  simp only [fCallL, Option.bind_eq_bind, Option.bind_eq_some_iff, Option.pure_def, Option.some.injEq] at q
  obtain ⟨⟨ds, e1⟩, k1, ⟨r, outs⟩, k3, k5⟩ := q
  cases k5
  refine ⟨P, env, ds, e1, R0, k1, fun v xs P1 H1 R1 s1 q1 l1 hp => ?_⟩
  have nP : ¬ P1 v := R1.fresh hp
  refine ⟨fun y => P1 y ∨ y = v, [.list ds], [v], r, outs, .io (.inr rfl) ⟨l1, xs, upd_same, q1.mono (hid_push hp)⟩ .nil, fun a h => ?_, k3, fun u H' keep hd _ => ?_⟩
  · by_cases z : a = v
    · rw [z, upd_same]
      exact fun y => nomatch y
    · rw [upd_ne z]
      exact R1.pt a (h.resolve_right z)
  · have s : Same H1 H' := fun b o z => keep b o (by rw [upd_ne (ne_of_none z hp)]; exact z) (fun m => ne_of_none z hp (List.mem_singleton.mp m))
    exact kk u P1 H' (R1.same s) (s1.trans (hid_same s)) (hd.mono (hid_mono fun a h => .inl h))
/-! ### x.append(e), x an owned list -/
def isLst (j : Nat) (env : List Sl) : Option Unit := match env[j]? with
  | some (.mu _ (.list _)) => some ()
  | _ => none
def appD (j : Nat) (d : PyData) : Ss := fun env => match env[j]? with
  | some (.mu b (.list ds)) => if ds.length < sizeLine then some (.nx (env.set j (.mu b (.list (ds ++ [d]))))) else none
  | _ => none
def fApp (j : Nat) (f : Sf) : Ss := fun env => do
  let _ ← isLst j env
  let (r, e1) ← f env
  let (d, e2) ← fz e1 r
  appD j d e2
theorem ss_app {j : Nat} {y : Str} {f : Sf} {p0 apos cpos : Pos} (hx : PE X (.Name y p0) (tVar j)) (ha : SE X c e f)
    (hbase : attributeBase (.Name y p0) "append" X.env (eval (.Name y p0) X.env) = eval (.Name y p0) X.env := by rfl)
    (hfew : ((backTo cpos (starEach [e] X.env)).all (fun x => !x.1) && (backToKw cpos (keywordEach [] X.env)).all (fun x => x.1.isSome) && decide ([e].length + ([] : List Keyword).length + (if ([] : List Keyword).isEmpty then 0 else 1) < 30)) = true := by rfl)
    (hline : (apos.endLine == cpos.line) = true := by rfl) (hs : starEach [e] X.env = (false, eval e X.env) :: starEach [] X.env := by rfl) (hplain : (backTo cpos (starEach [] X.env)).any (·.1) = false := by rfl)
    (hsw : swapsWith (.Call (.Attribute (.Name y p0) "append" apos) [e] [] cpos) none pos.line X.env = pure false := by rfl) :
    SS X c (.Expr (.Call (.Attribute (.Name y p0) "append" apos) [e] [] cpos) pos) (fApp j f) := by
  refine impS (ps_expr (pe_bm PySem.F.plainAttrs_list PySem.F.slot_list_append PySem.F.type_list_append mt_append hx (pa_cons ha pa_nil hs) hbase hfew hline hs hplain) hsw) fun D σ H ⟨P, env, o, R0, q, k⟩ => ?_
  simp only [fApp, Option.bind_eq_bind, Option.bind_eq_some_iff] at q
  obtain ⟨_, k0, ⟨r, e1⟩, k1, ⟨d, e2⟩, k2, k3⟩ := q
  unfold isLst at k0
  split at k0
  · rename_i b0 ds0 h0
    obtain ⟨a, a1, a2, ⟨_, ys, a3, _⟩, _⟩ := R0.mu j b0 _ h0
    refine ⟨.ref a, a1, .inl ⟨rfl, ys, SqL.of a3⟩, ⟨P, env, r, e1, R0, k1, fun v P1 H1 R1 s1 q1 => ?_⟩⟩
    obtain ⟨P2, R2, s2, q2⟩ := R1.fz q1 k2
    unfold appD at k3
    split at k3
    · rename_i b ds hj
      split at k3
      · rename_i hlt
        cases k3
        obtain ⟨a', b1, b2, ⟨_, xs, b3, b4⟩, _⟩ := R2.mu j b _ hj
        rw [a1] at b1
        cases b1
        refine ⟨a, xs, v, rfl, rfl, b3, by rw [b4.len]; exact hlt, ?_⟩
        obtain ⟨R3, s3⟩ := R2.put (ob := .lst (xs ++ [v])) a1 hj (o' := .list (ds ++ [d])) ⟨by rw [List.length_append]; exact hlt, _, upd_same, (b4.app (.one q2)).mono (hid_upd b2)⟩
        exact k σ P2 _ R3 (s1.trans (s2.trans s3))
      · cases k3
    · cases k3
  · cases k0
/-! ### d[k], d.get(k, x) -/
def dgetD (o i : PyData) : Option PyData := match o with
  | .dict ps => (keyOf? i).bind fun k => getP ps k
  | _ => none
def fDg (fo fi : Sf) : Sf := fun env => do
  let (r, e1) ← fo env
  let (ri, e2) ← fi e1
  let o ← res e2 r
  let i ← res e2 ri
  let d ← dgetD o i
  pure (.d d, e2)
theorem se_dget {o i : Expr} {fo fi : Sf} (hu : X.A.units + 1 < cLine) (ho : SE X c o fo) (hi : SE X c i fi) (hs : NoSl i := by intro _ _; rfl) : SE X c (.Subscript o i pos) (fDg fo fi) := by
  refine imp (pe_dget hu ho hi hs) fun σ H Q ⟨P, env, r0, env', R0, q, k⟩ => ?_
  simp only [fDg, Option.bind_eq_bind, Option.bind_eq_some_iff, Option.pure_def, Option.some.injEq] at q
  obtain ⟨⟨r, e1⟩, k1, ⟨ri, e2⟩, k2, od, k3, id, k4, d, k5, k6⟩ := q
  cases k6
  refine ⟨P, env, r, e1, R0, k1, fun v P1 H1 R1 s1 q1 => ⟨P1, e1, ri, e2, R1, k2, fun u P2 H2 R2 s2 q2 => ?_⟩⟩
  cases od with
  | dict ps =>
    obtain ⟨ky, h1, h2⟩ := Option.bind_eq_some_iff.mp (show (keyOf? id).bind (fun k => getP ps k) = some d from k5)
    obtain ⟨a, kvs, rfl, hx, hq⟩ := (R2.res (q1.step s2) k3).dic
    rcases hq.get (k := ky) with ⟨_, z⟩ | ⟨w, d', z1, z2, z3⟩
    · rw [h2] at z
      cases z
    · rw [h2] at z2
      cases z2
      exact ⟨a, w, rfl, .inl ⟨kvs, ky, .inl hx, (R2.res q2 k4).key h1, z1.symm⟩, k w P2 H2 R2 (s1.trans s2) z3⟩
  | _ => cases k5
end
end L2.Lp

set_option Elab.async false
set_option linter.all false
set_option maxRecDepth 100000
set_option maxHeartbeats 4000000
/-! Lp23: list + list; all of + on data; negative constants; a test that is and/or. -/
namespace L2.Lp
open PySem PySem.Spec L2
section
variable {X : Cx} {K : PySem.W.Frag} {c : Cn} {a b : Expr} {f fa fb : Sf} {ta : Tf} {pos : Pos}
theorem op_catL : OpR X (binaryOp .Add) (rCatL X.K) := by
  intro pins s σ H x y v u Q I rx ry h
  obtain ⟨l, b, xs, zs, rfl, rfl, h1, h2, hz, q⟩ := h
  cases rx
  cases ry
  obtain ⟨i1, r1, ⟨⟨c1, d1, t1, s1⟩, n1, e1, p1, _, q1⟩, _⟩ := I.list h1
  obtain ⟨i2, r2, ⟨⟨c2, d2, t2, s2⟩, n2, e2, p2, _, q2⟩, _⟩ := I.list h2
  simp only at p1 q1 p2 q2
  subst p1 q1 p2 q2
  have l1 := r1.length
  have l2 := r2.length
  refine PySem.concat_meets ⟨_, e1, rfl⟩ ⟨_, e2, rfl⟩ PySem.noFill_list_add PySem.seq_list_add PySem.F.slot_list_add PySem.F.entry_list_add (PySem.F.args_list_add_2 _ _) (PyProof.Rows.list_addW l b i1.toArray i2.toArray n1 n2 d1 d2 s1 s2 (by simp only [List.size_toArray]; omega)) ⟨e1, e2, ?_⟩
  have e : i1.toArray ++ i2.toArray = (i1 ++ i2).toArray := by simp
  rw [e]
  exact ⟨.ref _, _, I.lnew (t' := s.toks) (r1.append r2) (by rw [List.length_append]; omega), rfl, q _ I.fresh⟩
/-- + of ints, texts, tuples, lists -/
def gPlus : PyData → PyData → Option PyData := fun x y => (gAdd x y).or ((gCat x y).map .list)
def rPlus (K : PySem.W.Frag) : R2 := fun x y H Q => rAddA K x y H Q ∨ rCatL K x y H Q
theorem op_plus : OpR X (binaryOp .Add) (rPlus X.K) := op_addA.or op_catL
theorem opg_plus : OpG K (rPlus K) gPlus := by
  refine OpG.or opg_add fun x y H P d1 d2 d Q q1 q2 pt e k => ?_
  obtain ⟨ds, e1, rfl⟩ := Option.map_eq_some_iff.mp e
  refine opg_cat x y H P d1 d2 ds Q q1 q2 e1 fun p ys q l hp => ?_
  have s3 := upd_ext (o := .lst ys) hp
  exact k _ _ s3 (.lst (SqL.of (hid_some.mpr ⟨fun z => pt p z hp, upd_same⟩)) l (q.mono (hid_same s3)))
def fNegI (f : Sf) : Sf := fun env => do
  let (r, e1) ← f env
  let d ← res e1 r
  match d with
  | .int i => some (.d (.int (-i)), e1)
  | _ => none
theorem se_neg (h : SE X c a f) : SE X c (.UnaryOp .USub a pos) (fNegI f) := by
  refine imp (pe_un un_neg h) fun σ H Q ⟨P, env, r, env', R0, e, k⟩ => ?_
  simp only [fNegI, Option.bind_eq_bind, Option.bind_eq_some_iff] at e
  obtain ⟨⟨r1, e1⟩, k1, d, k2, k3⟩ := e
  split at k3
  · cases k3
    exact ⟨P, env, r1, _, R0, k1, fun v P1 H1 R1 s1 q1 => ⟨_, (R1.res q1 k2).int, k _ P1 H1 R1 s1 (.int _)⟩⟩
  · cases k3
theorem roomLe {j k : Nat} {A : Around} (r : Room k A) (h : j ≤ k) : Room j A := r.mono h
def fPar (is : List Nat) (fs : List Sf) : Ss := fun env => do
  let (rs, e1) ← eA fs env
  let (ds, e2) ← fzs e1 rs
  pure (.nx ((is.zip ds).foldl (fun e p => e.set p.1 (.sh p.2)) e2))
theorem ss_par {i j : Nat} {x y : Str} {px py pt : Pos} {kt k2 pt2} (hc : X.calm = true) (hN : X.N.Nodup) (hi : X.N[i]? = some x) (hj : X.N[j]? = some y) (hij : i ≠ j) (hx : X.env.scope.names.lookup x = some .local) (hy : X.env.scope.names.lookup y = some .local)
    (ha : SA X c [a, b] [fa, fb]) (hw : swappedStores [.Tuple [.Name x px, .Name y py] kt pt] (.Tuple [a, b] k2 pt2) X.env = pure (some [x, y]) := by rfl) (hs : swapsWithSole [.Tuple [.Name x px, .Name y py] kt pt] (.Tuple [a, b] k2 pt2) pos.line X.env = pure false := by rfl) :
    SS X c (.Assign [.Tuple [.Name x px, .Name y py] kt pt] (.Tuple [a, b] k2 pt2) pos) (fPar [i, j] [fa, fb]) := by
  refine impS (ps_par hc hN hi hj hij hx hy ha hw hs) fun D σ H ⟨P, env, o, R0, q, k⟩ => ?_
  simp only [fPar, Option.bind_eq_bind, Option.bind_eq_some_iff, Option.pure_def, Option.some.injEq] at q
  obtain ⟨⟨rs, e1⟩, k1, ⟨ds, e2⟩, k2, k3⟩ := q
  subst k3
  refine ⟨P, env, rs, e1, R0, k1, fun vs P1 H1 R1 s1 q1 => ?_⟩
  have lr := eA_len k1
  obtain ⟨P2, R2, s2, q2⟩ := R1.fzs q1 k2
  have lv := q2.len
  have lq : vs.length = 2 := by
    have : ∀ {P : Addr → Prop} {vs : List V} {rs : List R}, RelTs X.K P σ H1 vs rs → vs.length = rs.length := fun h => by
      induction h with
      | nil => rfl
      | cons _ _ ih => simp [ih]
    rw [this q1, lr]
    rfl
  match vs, ds, q2, lq with
  | [v, w], [d, e], .cons h1 (.cons h2 .nil), _ => exact ⟨v, w, rfl, k _ P2 H1 ((R2.setSh h1).setSh h2) (s1.trans s2)⟩
theorem sts_nil : PTs X [] (tT X.K c fYes) := ⟨fun pins s σ H Q I ⟨P, env, b, env', R0, e, k⟩ => by
  cases e
  exact pts_nil.run pins s σ H Q I (k P H R0 (Stp.refl _ _))⟩
theorem sts_one (h : ST X c a ta) : PTs X [a] (tT X.K c ta) := pts_one h
end
theorem room5 {k : Nat} {A : Around} (r : Room k A) : A.units + 65 < cLine := by have := r.un; omega
theorem room1 {k : Nat} {A : Around} (r : Room k A) : A.units + 1 < cLine := by have := r.un; omega
/-- nothing is promised -/
theorem none_ok {P : Program} {w : World} {K : PySem.W.Frag} {mg : Str → Option Value} {base : Heap} {x qual : Str} {params : Arguments} {body : List Stmt} {scope : Scope} {f : Addr} {fd : FuncData} {N ps : List Str} {k : Nat} {mask : List Bool}
    (F : FunD K x qual params body scope [] [] f fd) (S : FnScope N ps scope) : FnOk P w K mg base CX0 (k + 1) f fd ps (spD K mask fun _ => none) := by
  have no : ∀ {vs : List V} {H : Hp} {Q : VK} {E : XK}, ¬ spD K mask (fun _ => none) vs H Q E := fun ⟨_, _, _, _, _, _, _, h, _⟩ => nomatch h
  exact F.ok S (fun vs H Q E h => (no h).elim) (fun cdv A outer s H vs Q E hr h => (no h).elim)
end L2.Lp

set_option Elab.async false
set_option linter.all false
set_option maxRecDepth 100000
set_option maxHeartbeats 4000000
/-! Lp24: calls whose arguments all have names. -/
namespace L2.Lp
open PySem PySem.Spec L2
def pick {α : Type} (perm : List Nat) (xs : List α) : List α := perm.filterMap fun i => xs[i]?
theorem pick_vals {xs : List V} {us : List Value} (r : Vals xs us) : ∀ perm : List Nat, Vals (pick perm xs) (pick perm us)
  | [] => .nil
  | i :: perm => by
    unfold pick
    have ih := pick_vals r perm
    unfold pick at ih
    cases h : xs[i]? with
    | none =>
      have h2 : us[i]? = none := by
        rw [List.getElem?_eq_none_iff] at h ⊢
        rw [← r.length]
        exact h
      rw [List.filterMap_cons_none h, List.filterMap_cons_none h2]
      exact ih
    | some x =>
      obtain ⟨u, h2, rx⟩ := r.get h
      rw [List.filterMap_cons_some h, List.filterMap_cons_some h2]
      exact .cons rx ih
section
variable {K : PySem.W.Frag} {P : Addr → Prop} {σ : St} {H : Hp}
theorem RelTs.get : ∀ {vs : List V} {rs : List R} {i : Nat}, RelTs K P σ H vs rs → (vs[i]? = none ∧ rs[i]? = none) ∨ ∃ v r, vs[i]? = some v ∧ rs[i]? = some r ∧ RelT K P σ H v r
  | _, _, i, .nil => .inl ⟨rfl, rfl⟩
  | _, _, 0, .cons h _ => .inr ⟨_, _, rfl, rfl, h⟩
  | _, _, i + 1, .cons _ t => by
    rcases RelTs.get (i := i) t with ⟨a, b⟩ | ⟨v, r, a, b, h⟩
    · exact .inl ⟨by simpa using a, by simpa using b⟩
    · exact .inr ⟨v, r, by simpa using a, by simpa using b, h⟩
theorem RelTs.pick {vs : List V} {rs : List R} (h : RelTs K P σ H vs rs) : ∀ perm : List Nat, RelTs K P σ H (Lp.pick perm vs) (Lp.pick perm rs)
  | [] => .nil
  | i :: perm => by
    unfold Lp.pick
    have ih := RelTs.pick h perm
    unfold Lp.pick at ih
    rcases h.get (i := i) with ⟨a, b⟩ | ⟨v, r, a, b, q⟩
    · rw [List.filterMap_cons_none a, List.filterMap_cons_none b]
      exact ih
    · rw [List.filterMap_cons_some a, List.filterMap_cons_some b]
      exact .cons q ih
end
def fCallKw (mask : List Bool) (F : Fn) (perm : List Nat) (fs : List Sf) : Sf := fun env => do
  let (rs, e1) ← eA fs env
  let (ds, is, e2) ← argsD mask (pick perm rs) e1
  let (r, outs) ← F ds
  let e3 ← setOuts is outs e2
  pure (.d r, e3)
/-- how named values come to the parameters' order -/
def KwTo (fd : FuncData) (ps ks : List Str) (perm : List Nat) : Prop := ∀ (s : Shared) (ws : List Value), ws.length = ks.length → BindsTo s fd ⟨[], ks.zip ws⟩ (ps.zip (pick perm ws))
theorem kw_to {K : PySem.W.Frag} {x qual : Str} {params : Arguments} {body : List Stmt} {scope : Scope} {f : Addr} {fd : FuncData} {ps ks : List Str} {perm : List Nat} (F : FunD K x qual params body scope [] [] f fd)
    (h : ∀ (kV doc pm : Value) (an : Option Addr) (cdv ct : Value) (ws : List Value), ws.length = ks.length → bindArgs (PySem.W.fnOf x qual params body scope .none kV doc pm an cdv ct) ⟨[], ks.zip ws⟩ = pure (ps.zip (pick perm ws))) : KwTo fd ps ks perm := by
  intro s ws hl
  obtain ⟨oc, od, dV, kV, doc, pm, an, cdv, ct, osl, rfl, lk, hcd, hD, hK⟩ := F.ex
  rcases hD with ⟨_, rfl⟩ | ⟨e, _⟩
  · exact .of_eq (h kV doc pm an cdv ct ws hl)
  · exact absurd rfl e
section
variable {X : Cx} {c : Cn} {e : Expr} {kws : List Keyword} {fs : List Sf} {f1 : Sf} {pos p kpos : Pos} {k : Nat} {f : Addr} {fd : FuncData} {ps ks : List Str} {mask : List Bool} {F : Fn} {x : Str} {perm : List Nat} {nm : Option Str}
abbrev SK (X : Cx) (c : Cn) (kws : List Keyword) (fs : List Sf) : Prop := PK X kws (tA X.K c fs)
theorem sk_nil : SK X c [] [] := ⟨fun pos pins s σ H Q I ⟨P, env, rs, env', R0, q, k⟩ => by
  cases q
  exact pk_nil.run pos pins s σ H Q I (k [] P H R0 (Stp.refl _ _) .nil)⟩
theorem sk_cons (ha : SE X c e f1) (hr : SK X c kws fs) : SK X c (⟨nm, e, kpos⟩ :: kws) (f1 :: fs) := ⟨fun pos pins s σ H Q I ⟨P, env, rs, env', R0, q, k⟩ => by
  simp only [eA, Option.bind_eq_bind, Option.bind_eq_some_iff, Option.pure_def, Option.some.injEq] at q
  obtain ⟨⟨r, e1⟩, k1, ⟨rs2, e2⟩, k2, k3⟩ := q
  cases k3
  refine (pk_cons ha hr).run pos pins s σ H Q I ⟨P, env, r, e1, R0, k1, fun v P1 H1 R1 s1 q1 => ⟨P1, e1, rs2, _, R1, k2, fun vs P2 H2 R2 s2 q2 => ?_⟩⟩
  exact k _ P2 H2 R2 (s1.trans s2) (.cons (q1.step s2) q2)⟩
theorem se_callKw (G : FnOk X.prog X.w X.K X.mg X.base CX0 k f fd ps (spD X.K mask F)) (hr : Room k X.A) (hg : Gl X x) (hm : X.mg x = some (.ref f)) (hk : PySem.W.keepIn X.K (.ref f) = true) (hb : KwTo fd ps ks perm) (ha : SK X c kws fs)
    (hall : (backToKw pos (keywordEach kws X.env)).all (·.1.isSome) = true := by rfl) (hks : (backToKw pos (keywordEach kws X.env)).filterMap (·.1) = ks := by rfl) (hlen : fs.length = ks.length := by rfl) (hdb : (x == ("__debug__" : Str)) = false := by decide)
    (hpl : ((backTo pos (starEach [] X.env)).any (·.1) || (backToKw pos (keywordEach kws X.env)).any (·.1.isNone)) = false := by rfl) : SE X c (.Call (.Name x p) [] kws pos) (fCallKw mask F perm fs) := by
  refine ⟨fun pins s σ H Q I ⟨P, env, r0, env', R0, q, kk⟩ => ?_⟩
  simp only [fCallKw, Option.bind_eq_bind, Option.bind_eq_some_iff, Option.pure_def, Option.some.injEq] at q
  obtain ⟨⟨rs, e1⟩, k1, ⟨ds, is, e2⟩, k2, ⟨r, outs⟩, k3, e3, k4, k5⟩ := q
  cases k5
  refine wpAny_Call_Name_kw (ld_glob I hg hm ?_ hdb)
  refine PySem.W.callWith_KW0 (h₀ := X.base) I.ok.mod.kin hk hall (thn (ha.run pos pins s σ H (fun zs H1 => zs.length = rs.length ∧ spD X.K mask F (pick perm zs) H1 Q E0) I ⟨P, env, rs, e1, R0, k1, fun vs P1 H1 R1 s1 q1 => ⟨?_, ?_⟩⟩) fun ws s2 ⟨zs, H2, I2, rz, hl, q2⟩ => ⟨I2.kIn, ?_⟩) hpl
  · clear k1 k2
    induction q1 with
    | nil => rfl
    | cons _ _ ih => simp [ih]
  · obtain ⟨P2, as, R2, s2, A2, L2⟩ := argsD_rel R1 (q1.pick perm) k2
    refine ⟨P2, ds, as, r, outs, A2, R2.pt, k3, fun v H' keep hd ho => ?_⟩
    match is, as, outs, L2, k4, ho with
    | [], [], [], _, k4, _ =>
      cases k4
      have s : Same H1 H' := fun b o z => keep b o z (by simp)
      exact kk v P2 H' (R2.same s) (s1.trans (s2.trans (hid_same s))) hd
    | [i], [a], [d], ⟨hv, b, d0, he⟩, k4, ho =>
      simp only [setOuts, he, Option.some.injEq] at k4
      subst k4
      obtain ⟨R3, s3⟩ := R2.back hv he (fun y o z n => keep y o z fun m => n (List.mem_singleton.mp m)) ho
      exact kk v P2 H' R3 (s1.trans (s2.trans s3)) hd
    | [], [], _ :: _, _, k4, _ => cases k4
    | [i], [a], [], _, k4, _ => cases k4
    | [i], [a], _ :: _ :: _, _, k4, _ => cases k4
  · rw [hks]
    have lw : ws.length = ks.length := by rw [← rz.length, hl, eA_len k1, hlen]
    refine wpAny_call (codeAny_mono (G.run X.A X.stack s2 H2 ⟨[], ks.zip ws⟩ (pick perm ws) (pick perm zs) Q E0 hr I2.env0 (hb s2 ws lw) (pick_vals rz perm) q2) fun r s' hq => ?_)
    cases r with
    | error e => exact pass0 pins σ H2 s2 e s' I2 hq
    | ok fl =>
      cases fl with
      | ret u => exact I2.after hq
      | next => exact False.elim hq
      | brk => exact False.elim hq
      | cont => exact False.elim hq
end
end L2.Lp

set_option Elab.async false
set_option linter.all false
set_option maxRecDepth 100000
set_option maxHeartbeats 4000000
/-! Lp25: a < b < c. -/
namespace L2.Lp
open PySem PySem.Spec L2
def asBool : PyData → Option Bool
  | .bool b => some b
  | _ => none
def fChain (g g' : PyData → PyData → Option PyData) (fa fb fc : Sf) : Sf := fun env => do
  let (ra, e1) ← fa env
  let (rb, e2) ← fb e1
  let a ← res e2 ra
  let b ← res e2 rb
  let z ← g a b
  let t ← asBool z
  if t then do
    let (rc, e3) ← fc e2
    let b2 ← res e3 rb
    let d ← res e3 rc
    let w ← g' b2 d
    pure (.d w, e3)
  else pure (.d (.bool false), e2)
section
variable {X : Cx} {c : Cn} {a b d : Expr} {fa fb fd : Sf} {pos : Pos} {r r' : R2} {g g' : PyData → PyData → Option PyData}
theorem chain_core (hg : OpG X.K r g) (hg' : OpG X.K r' g') {σ : St} {H : Hp} {Q : VK} (h : tE X.K c (fChain g g' fa fb fd) σ H Q) : tChain r r' (tE X.K c fa) (tE X.K c fb) (tE X.K c fd) σ H Q := by
  obtain ⟨P, env, r0, env', R0, q, k⟩ := h
  simp only [fChain, Option.bind_eq_bind, Option.bind_eq_some_iff, Option.pure_def] at q
  obtain ⟨⟨ra, e1⟩, k1, ⟨rb, e2⟩, k2, da, k3, db, k4, z, k5, t, k6, k7⟩ := q
  refine ⟨P, env, ra, e1, R0, k1, fun x P1 H1 R1 s1 q1 => ⟨P1, e1, rb, e2, R1, k2, fun y P2 H2 R2 s2 q2 => ?_⟩⟩
  refine hg x y H2 P2 da db z _ (R2.res (q1.step s2) k3) (R2.res q2 k4) R2.pt k5 fun v H3 s3 q3 => ?_
  cases z <;> cases k6
  cases q3
  refine ⟨t, rfl, ?_⟩
  have R3 := R2.same s3
  have st : Stp P2 H2 P2 H3 := hid_same s3
  cases t with
  | true =>
    simp only [if_true] at k7 ⊢
    simp only [Option.bind_eq_some_iff, Option.some.injEq] at k7
    obtain ⟨⟨rc, e3⟩, k8, b2, k9, dd, k10, w, k11, k12⟩ := k7
    cases k12
    refine ⟨P2, e2, rc, e3, R3, k8, fun u P4 H4 R4 s4 q4 => ?_⟩
    refine hg' y u H4 P4 b2 dd w Q (R4.res ((q2.step st).step s4) k9) (R4.res q4 k10) R4.pt k11 fun v2 H5 s5 q5 => ?_
    exact k v2 P4 H5 (R4.same s5) (s1.trans (s2.trans (st.trans (s4.trans (hid_same s5))))) q5
  | false =>
    simp only [Bool.false_eq_true, if_false, Option.some.injEq] at k7 ⊢
    cases k7
    exact k _ P2 H3 R3 (s1.trans (s2.trans st)) (.bl false)
theorem se_chain {op op' : CmpOp} (ho : OpR X (compareOp op) r) (ho' : OpR X (compareOp op') r') (hg : OpG X.K r g) (hg' : OpG X.K r' g') (ha : SE X c a fa) (hb : SE X c b fb) (hc : SE X c d fd)
    (hm : lastMarks [op, op'] [b, d] = false := by with_unfolding_all rfl) : SE X c (.Compare a [op, op'] [b, d] pos) (fChain g g' fa fb fd) := imp (pe_chain ho ho' ha hb hc hm) fun _ _ _ h => chain_core hg hg' h
theorem st_chain {op op' : CmpOp} (ho : OpR X (compareOp op) r) (ho' : OpR X (compareOp op') r') (hg : OpG X.K r g) (hg' : OpG X.K r' g') (ha : SE X c a fa) (hb : SE X c b fb) (hc : SE X c d fd)
    (hm : lastMarks [op, op'] [b, d] = false := by with_unfolding_all rfl) : ST X c (.Compare a [op, op'] [b, d] pos) (fB (fChain g g' fa fb fd)) := impT (pt_chain ho ho' ha hb hc hm) fun _ _ _ h => chain_core hg hg' (test_core h)
end
end L2.Lp

set_option Elab.async false
set_option linter.all false
set_option maxRecDepth 100000
set_option maxHeartbeats 4000000
/-! Lp26: d.get(k), d.get(k, x). -/
namespace L2.Lp
open PySem PySem.Spec L2
def dicOf : PyData → Option (List (PyData × PyData))
  | .dict ps => some ps
  | _ => none
theorem dicOf_some {d : PyData} {ps : List (PyData × PyData)} (h : dicOf d = some ps) : d = .dict ps := by
  cases d <;> cases h
  rfl
def fGet2 (fo fi fx : Sf) : Sf := fun env => do
  let (r, e1) ← fo env
  let o0 ← res e1 r
  let _ ← dicOf o0
  let (ri, e2) ← fi e1
  let (rx, e3) ← fx e2
  let o ← res e3 r
  let ps ← dicOf o
  let i ← res e3 ri
  let k ← keyOf? i
  match getP ps k with
  | some d => some (.d d, e3)
  | none => some (rx, e3)
def fGet1 (fo fi : Sf) : Sf := fun env => do
  let (r, e1) ← fo env
  let o0 ← res e1 r
  let _ ← dicOf o0
  let (ri, e2) ← fi e1
  let o ← res e2 r
  let ps ← dicOf o
  let i ← res e2 ri
  let k ← keyOf? i
  pure (.d ((getP ps k).getD .none), e2)
section
variable {X : Cx} {c : Cn} {o i x : Expr} {fo fi fx : Sf} {apos cpos : Pos}
theorem se_get2 (hu : X.A.units + 1 < cLine) (ho : SE X c o fo) (hi : SE X c i fi) (hx : SE X c x fx) (m : M2 X o "get" apos i x cpos := by exact ⟨rfl, rfl, rfl, rfl⟩) : SE X c (.Call (.Attribute o "get" apos) [i, x] [] cpos) (fGet2 fo fi fx) := by
  refine imp (pe_dget2 hu ho hi hx m) fun σ H Q ⟨P, env, r0, env', R0, q, k⟩ => ?_
  simp only [fGet2, Option.bind_eq_bind, Option.bind_eq_some_iff] at q
  obtain ⟨⟨r, e1⟩, k1, o0, k2, ps0, k3, ⟨ri, e2⟩, k4, ⟨rx, e3⟩, k5, od, k6, ps, k7, id, k8, ky, k9, k10⟩ := q
  refine ⟨P, env, r, e1, R0, k1, fun v P1 H1 R1 s1 q1 => ?_⟩
  have d0 := R1.res q1 k2
  rw [dicOf_some k3] at d0
  obtain ⟨a, kvs0, rfl, hx0, _⟩ := d0.dic
  refine ⟨a, rfl, .inl ⟨kvs0, .inl hx0⟩, ⟨P1, e1, ri, e2, R1, k4, fun u P2 H2 R2 s2 q2 => ⟨P2, e2, rx, e3, R2, k5, fun w P3 H3 R3 s3 q3 => ?_⟩⟩⟩
  have d1 := R3.res ((q1.step s2).step s3) k6
  rw [dicOf_some k7] at d1
  obtain ⟨a', kvs, ea, hx1, hq⟩ := d1.dic
  cases ea
  refine ⟨valV kvs ky, .inl ⟨kvs, ky, .inl hx1, (R3.res (q2.step s3) k8).key k9, rfl⟩, ?_⟩
  rcases hq.get (k := ky) with ⟨z1, z2⟩ | ⟨w', d, z1, z2, z3⟩
  · rw [z2] at k10
    cases k10
    rw [z1]
    exact k w P3 H3 R3 (s1.trans (s2.trans s3)) q3
  · rw [z2] at k10
    cases k10
    rw [z1]
    exact k w' P3 H3 R3 (s1.trans (s2.trans s3)) z3
theorem se_get1 (hu : X.A.units + 1 < cLine) (ho : SE X c o fo) (hi : SE X c i fi) (m : M1 X o "get" apos i cpos := by exact ⟨rfl, rfl, rfl, rfl⟩) : SE X c (.Call (.Attribute o "get" apos) [i] [] cpos) (fGet1 fo fi) := by
  refine imp (pe_dget1 hu ho hi m) fun σ H Q ⟨P, env, r0, env', R0, q, k⟩ => ?_
  simp only [fGet1, Option.bind_eq_bind, Option.bind_eq_some_iff, Option.pure_def, Option.some.injEq] at q
  obtain ⟨⟨r, e1⟩, k1, o0, k2, ps0, k3, ⟨ri, e2⟩, k4, od, k6, ps, k7, id, k8, ky, k9, k10⟩ := q
  cases k10
  refine ⟨P, env, r, e1, R0, k1, fun v P1 H1 R1 s1 q1 => ?_⟩
  have d0 := R1.res q1 k2
  rw [dicOf_some k3] at d0
  obtain ⟨a, kvs0, rfl, hx0, _⟩ := d0.dic
  refine ⟨a, rfl, .inl ⟨kvs0, .inl hx0⟩, ⟨P1, e1, ri, e2, R1, k4, fun u P2 H2 R2 s2 q2 => ?_⟩⟩
  have d1 := R2.res (q1.step s2) k6
  rw [dicOf_some k7] at d1
  obtain ⟨a', kvs, ea, hx1, hq⟩ := d1.dic
  cases ea
  refine ⟨valV kvs ky, .inl ⟨kvs, ky, .inl hx1, (R2.res q2 k8).key k9, rfl⟩, ?_⟩
  rcases hq.get (k := ky) with ⟨z1, z2⟩ | ⟨w', d, z1, z2, z3⟩
  · rw [z1]
    refine k .non P2 H2 R2 (s1.trans s2) ?_
    rw [z2]
    exact .non
  · rw [z1]
    refine k w' P2 H2 R2 (s1.trans s2) ?_
    rw [z2]
    exact z3
end
end L2.Lp

set_option Elab.async false
set_option linter.all false
set_option maxRecDepth 100000
set_option maxHeartbeats 4000000
/-! Lp27: walks over a list, a tuple or a text. -/
namespace L2.Lp
open PySem PySem.Spec L2
def signs (x : Str) : List PyData := x.cps.toList.map fun c => .str ⟨#[c]⟩
def fStr (f : Sf) : Ff := fun env => do
  let (r, e1) ← f env
  match res e1 r with
  | some (.str x) => if x.cps.size ≤ sizeLine then some (signs x, e1) else none
  | _ => none
def fWalk (f : Sf) : Ff := fun env => (fSeq f env).or (fStr f env)
section
variable {X : Cx} {c : Cn} {e : Expr} {f : Sf}
theorem pi_or {tg : Expr} {t t' : TI} (h : PI X tg e t) (h' : PI X tg e t') : PI X tg e fun σ H R => t σ H R ∨ t' σ H R := ⟨fun pins s σ H R I q => by
  rcases q with q | q
  · exact h.run pins s σ H R I q
  · exact h'.run pins s σ H R I q⟩
theorem si_str {tg : Expr} (h : SE X c e f) : SI X c tg e (fStr f) := by
  refine impI (pi_str h) fun σ H R ⟨P, env, ds, env', R0, q, k⟩ => ?_
  simp only [fStr, Option.bind_eq_bind, Option.bind_eq_some_iff] at q
  obtain ⟨⟨r, e1⟩, k1, k2⟩ := q
  split at k2
  · rename_i x hr
    split at k2
    · rename_i hl
      cases k2
      refine ⟨P, env, r, _, R0, k1, fun v P1 H1 R1 s1 q1 => ⟨x, (R1.res q1 hr).str, ?_⟩⟩
      have hlen : (signs x).length = x.cps.size := by simp [signs]
      refine k _ P1 H1 R1 s1 (fun P H st pt i => ⟨fun d hd => ?_, fun hi => ?_⟩) (by rw [hlen]; exact hl)
      · have hd2 : ∃ ch, x.cps[i]? = some ch ∧ d = .str ⟨#[ch]⟩ := by
          unfold signs at hd
          rw [List.getElem?_map] at hd
          obtain ⟨ch, h1, h2⟩ := Option.map_eq_some_iff.mp hd
          exact ⟨ch, by rw [← Array.getElem?_toList]; exact h1, h2.symm⟩
        obtain ⟨ch, h1, rfl⟩ := hd2
        refine ⟨(Array.getElem?_eq_some_iff.mp h1).1, fun y H' hy => ?_⟩
        obtain ⟨rfl, ch2, h3, rfl⟩ := hy
        rw [h1] at h3
        cases h3
        exact ⟨Same.refl _, .str _⟩
      · show x.cps.size ≤ i
        rw [hi, hlen]
        exact Nat.le_refl _
    · cases k2
  · cases k2
theorem si_walk {tg : Expr} (h : SE X c e f) : SI X c tg e (fWalk f) := by
  refine impI (pi_or (si_seq h) (si_str h)) fun σ H R ⟨P, env, ds, env', R0, q, k⟩ => ?_
  unfold fWalk at q
  cases hs : fSeq f env with
  | some z =>
    rw [hs] at q
    cases q
    exact .inl ⟨P, env, ds, env', R0, hs, k⟩
  | none =>
    rw [hs] at q
    exact .inr ⟨P, env, ds, env', R0, q, k⟩
end
end L2.Lp

set_option Elab.async false
set_option linter.all false
set_option maxRecDepth 100000
set_option maxHeartbeats 4000000
/-! data of one type: all that comparisons, sets and sorting ask of them -/
namespace L2.Lp
open PySem PySem.W PyProof.Rows
inductive Ty where
  | str | bool | int
  | seq (tup : Bool) (t : Ty)
  | row (tup : Bool) (ts : List Ty)
mutual
def hasT : PyData → Ty → Bool
  | .str x, .str => PyData.strOk x
  | .bool _, .bool => true
  | .int _, .int => true
  | .tuple ds, .seq true t => hasA ds t
  | .list ds, .seq false t => hasA ds t
  | .tuple ds, .row true ts => hasR ds ts
  | .list ds, .row false ts => hasR ds ts
  | _, _ => false
def hasA : List PyData → Ty → Bool
  | [], _ => true
  | d :: ds, t => hasT d t && hasA ds t
def hasR : List PyData → List Ty → Bool
  | [], [] => true
  | d :: ds, t :: ts => hasT d t && hasR ds ts
  | _, _ => false
end
mutual
theorem has_alike : ∀ (d e : PyData) (t : Ty), hasT d t = true → hasT e t = true → alike d e = true
  | .str _, e, t, h1, h2 => by cases t <;> cases e <;> simp_all [hasT, alike]
  | .bool _, e, t, h1, h2 => by cases t <;> cases e <;> simp_all [hasT, alike]
  | .int _, e, t, h1, h2 => by cases t <;> cases e <;> simp_all [hasT, alike]
  | .none, e, t, h1, h2 => by cases t <;> simp_all [hasT]
  | .dict _, e, t, h1, h2 => by cases t <;> simp_all [hasT]
  | .tuple ds, e, t, h1, h2 => by
    cases t with
    | seq b t =>
      cases b <;> cases e <;> simp [hasT] at h1 h2
      exact (by rw [alike]; exact has_alikeA ds _ t h1 h2)
    | row b ts =>
      cases b <;> cases e <;> simp [hasT] at h1 h2
      exact (by rw [alike]; exact has_alikeR ds _ ts h1 h2)
    | _ => simp [hasT] at h1
  | .list ds, e, t, h1, h2 => by
    cases t with
    | seq b t =>
      cases b <;> cases e <;> simp [hasT] at h1 h2
      exact (by rw [alike]; exact has_alikeA ds _ t h1 h2)
    | row b ts =>
      cases b <;> cases e <;> simp [hasT] at h1 h2
      exact (by rw [alike]; exact has_alikeR ds _ ts h1 h2)
    | _ => simp [hasT] at h1
theorem has_alikeA : ∀ (ds es : List PyData) (t : Ty), hasA ds t = true → hasA es t = true → alikeAll ds es = true
  | [], _, _, _, _ => by simp [alikeAll]
  | _ :: _, [], _, _, _ => by simp [alikeAll]
  | d :: ds, e :: es, t, h1, h2 => by
    simp only [hasA, Bool.and_eq_true] at h1 h2
    rw [alikeAll, has_alike d e t h1.1 h2.1, has_alikeA ds es t h1.2 h2.2]
    rfl
theorem has_alikeR : ∀ (ds es : List PyData) (ts : List Ty), hasR ds ts = true → hasR es ts = true → alikeAll ds es = true
  | [], _, _, _, _ => by simp [alikeAll]
  | _ :: _, [], _, _, _ => by simp [alikeAll]
  | d :: ds, e :: es, [], h1, h2 => by simp [hasR] at h1
  | d :: ds, e :: es, t :: ts, h1, h2 => by
    simp only [hasR, Bool.and_eq_true] at h1 h2
    rw [alikeAll, has_alike d e t h1.1 h2.1, has_alikeR ds es ts h1.2 h2.2]
    rfl
end
mutual
theorem has_eqv : ∀ (d e : PyData) (t : Ty), hasT d t = true → hasT e t = true → PyData.eqv d e = true → d = e
  | .str _, e, t, h1, h2, h => by cases t <;> cases e <;> simp_all [hasT, PyData.eqv]
  | .bool _, e, t, h1, h2, h => by cases t <;> cases e <;> simp_all [hasT, PyData.eqv]
  | .int _, e, t, h1, h2, h => by cases t <;> cases e <;> simp_all [hasT, PyData.eqv]
  | .none, e, t, h1, h2, h => by cases t <;> simp_all [hasT]
  | .dict _, e, t, h1, h2, h => by cases t <;> simp_all [hasT]
  | .tuple ds, e, t, h1, h2, h => by
    cases t with
    | seq b t =>
      cases b <;> cases e <;> simp [hasT] at h1 h2
      rw [PyData.eqv] at h
      rw [has_eqvA ds _ t h1 h2 h]
    | row b ts =>
      cases b <;> cases e <;> simp [hasT] at h1 h2
      rw [PyData.eqv] at h
      rw [has_eqvR ds _ ts h1 h2 h]
    | _ => simp [hasT] at h1
  | .list ds, e, t, h1, h2, h => by
    cases t with
    | seq b t =>
      cases b <;> cases e <;> simp [hasT] at h1 h2
      rw [PyData.eqv] at h
      rw [has_eqvA ds _ t h1 h2 h]
    | row b ts =>
      cases b <;> cases e <;> simp [hasT] at h1 h2
      rw [PyData.eqv] at h
      rw [has_eqvR ds _ ts h1 h2 h]
    | _ => simp [hasT] at h1
theorem has_eqvA : ∀ (ds es : List PyData) (t : Ty), hasA ds t = true → hasA es t = true → PyData.eqvAll ds es = true → ds = es
  | [], [], _, _, _, _ => rfl
  | [], _ :: _, _, _, _, h => by simp [PyData.eqvAll] at h
  | _ :: _, [], _, _, _, h => by simp [PyData.eqvAll] at h
  | d :: ds, e :: es, t, h1, h2, h => by
    simp only [hasA, Bool.and_eq_true] at h1 h2
    simp only [PyData.eqvAll, Bool.and_eq_true] at h
    rw [has_eqv d e t h1.1 h2.1 h.1, has_eqvA ds es t h1.2 h2.2 h.2]
theorem has_eqvR : ∀ (ds es : List PyData) (ts : List Ty), hasR ds ts = true → hasR es ts = true → PyData.eqvAll ds es = true → ds = es
  | [], [], _, _, _, _ => rfl
  | [], _ :: _, _, _, _, h => by simp [PyData.eqvAll] at h
  | _ :: _, [], _, _, _, h => by simp [PyData.eqvAll] at h
  | d :: ds, e :: es, [], h1, h2, h => by simp [hasR] at h1
  | d :: ds, e :: es, t :: ts, h1, h2, h => by
    simp only [hasR, Bool.and_eq_true] at h1 h2
    simp only [PyData.eqvAll, Bool.and_eq_true] at h
    rw [has_eqv d e t h1.1 h2.1 h.1, has_eqvR ds es ts h1.2 h2.2 h.2]
end
theorem has_eqv_iff {d e : PyData} {t : Ty} (h1 : hasT d t = true) (h2 : hasT e t = true) : PyData.eqv d e = true ↔ d = e :=
  ⟨has_eqv d e t h1 h2, fun h => by subst h; exact eqv_refl_alike d (has_alike d d t h1 h1)⟩
mutual
def Ty.dep : Ty → Nat
  | .str | .bool | .int => 0
  | .seq _ t => t.dep + 1
  | .row _ ts => Ty.depA ts + 1
def Ty.depA : List Ty → Nat
  | [] => 0
  | t :: ts => max t.dep (Ty.depA ts)
end
mutual
theorem has_lay : ∀ (d : PyData) (t : Ty), hasT d t = true → PyData.canLay0 d = true ∧ d.depth ≤ t.dep
  | .str _, t, h1 => by cases t <;> simp_all [hasT, PyData.canLay0, PyData.depth]
  | .bool _, t, h1 => by cases t <;> simp_all [hasT, PyData.canLay0, PyData.depth]
  | .int _, t, h1 => by cases t <;> simp_all [hasT, PyData.canLay0, PyData.depth]
  | .none, t, h1 => by cases t <;> simp_all [hasT]
  | .dict _, t, h1 => by cases t <;> simp_all [hasT]
  | .tuple ds, t, h1 => by
    cases t with
    | seq b t =>
      cases b <;> simp [hasT] at h1
      have := has_layA ds t h1
      simp only [PyData.canLay0, PyData.depth, Ty.dep]
      exact ⟨this.1, by omega⟩
    | row b ts =>
      cases b <;> simp [hasT] at h1
      have := has_layR ds ts h1
      simp only [PyData.canLay0, PyData.depth, Ty.dep]
      exact ⟨this.1, by omega⟩
    | _ => simp [hasT] at h1
  | .list ds, t, h1 => by
    cases t with
    | seq b t =>
      cases b <;> simp [hasT] at h1
      have := has_layA ds t h1
      simp only [PyData.canLay0, PyData.depth, Ty.dep]
      exact ⟨this.1, by omega⟩
    | row b ts =>
      cases b <;> simp [hasT] at h1
      have := has_layR ds ts h1
      simp only [PyData.canLay0, PyData.depth, Ty.dep]
      exact ⟨this.1, by omega⟩
    | _ => simp [hasT] at h1
theorem has_layA : ∀ (ds : List PyData) (t : Ty), hasA ds t = true → PyData.canLayAll0 ds = true ∧ PyData.depthAll ds ≤ t.dep
  | [], _, _ => by simp [PyData.canLayAll0, PyData.depthAll]
  | d :: ds, t, h1 => by
    simp only [hasA, Bool.and_eq_true] at h1
    have a := has_lay d t h1.1
    have b := has_layA ds t h1.2
    simp only [PyData.canLayAll0, PyData.depthAll, a.1, b.1]
    exact ⟨rfl, by omega⟩
theorem has_layR : ∀ (ds : List PyData) (ts : List Ty), hasR ds ts = true → PyData.canLayAll0 ds = true ∧ PyData.depthAll ds ≤ Ty.depA ts
  | [], ts, _ => by simp [PyData.canLayAll0, PyData.depthAll]
  | d :: ds, [], h1 => by simp [hasR] at h1
  | d :: ds, t :: ts, h1 => by
    simp only [hasR, Bool.and_eq_true] at h1
    have a := has_lay d t h1.1
    have b := has_layR ds ts h1.2
    simp only [PyData.canLayAll0, PyData.depthAll, a.1, b.1, Ty.depA]
    exact ⟨rfl, by omega⟩
end
theorem has_shaped {d : PyData} {t : Ty} (h : hasT d t = true) (k : t.dep ≤ 64) : SeqAt.shaped d = true := by
  have := has_lay d t h
  unfold SeqAt.shaped
  rw [Bool.and_eq_true, decide_eq_true_eq]
  exact ⟨this.1, by omega⟩
/-- unlike data: one is less than the other -/
theorem lt_total {d e : PyData} (al : alike d e = true) (ne : PyData.eqv d e = false) : dataLt d e = true ∨ dataLt e d = true := by
  have hk : keyToks d ≠ keyToks e := fun z => by
    have h := (toks_eqv d e al).2 ne [] [Sum.inl 0]
    rw [z, lex_pre, lex_irrefl] at h
    cases h
  cases h1 : dataLt d e with
  | true => exact .inl rfl
  | false =>
    cases h2 : dataLt e d with
    | true => exact .inr rfl
    | false => exact absurd (lex_total _ _ h1 h2) hk
end L2.Lp

set_option Elab.async false
set_option linter.all false
set_option maxRecDepth 100000
namespace L2.Lp
open PySem PySem.Spec L2
theorem fVar_ap (i : Nat) (env : List Sl) : fVar i env = (match env[i]? with
  | some (.sh d) => some (.d d, env)
  | some (.mu _ _) => some (.bor i, env)
  | _ => none) := rfl
theorem fC_ap (d : PyData) (env : List Sl) : fC d env = (some (.d d, env)) := rfl
theorem fTup_ap (fs : List Sf) (env : List Sl) : fTup fs env = (do
  let (rs, e1) ← eA fs env
  let (ds, e2) ← fzs e1 rs
  pure (.d (.tuple ds), e2)) := rfl
theorem fLst_ap (fs : List Sf) (env : List Sl) : fLst fs env = (do
  let (rs, e1) ← eA fs env
  let (ds, e2) ← fzs e1 rs
  pure (.d (.list ds), e2)) := rfl
theorem fOp_ap (g : PyData → PyData → Option PyData) (fa fb : Sf) (env : List Sl) : fOp g fa fb env = (do
  let (r1, e1) ← fa env
  let (r2, e2) ← fb e1
  let d1 ← res e2 r1
  let d2 ← res e2 r2
  let d ← g d1 d2
  pure (.d d, e2)) := rfl
theorem fB_ap (f : Sf) (env : List Sl) : fB f env = (do
  let (r, e1) ← f env
  let b ← asB r
  pure (b, e1)) := rfl
theorem fCall_ap (g : List PyData → Option PyData) (fs : List Sf) (env : List Sl) : fCall g fs env = (do
  let (rs, e1) ← eA fs env
  let ds ← ress e1 rs
  let d ← g ds
  pure (.d d, e1)) := rfl
theorem fAnd_ap (fa fb : Tf) (env : List Sl) : fAnd fa fb env = (do
  let (b, e1) ← fa env
  if b then fb e1 else some (false, e1)) := rfl
theorem fOr_ap (fa fb : Tf) (env : List Sl) : fOr fa fb env = (do
  let (b, e1) ← fa env
  if b then some (true, e1) else fb e1) := rfl
theorem fNot_ap (fa : Tf) (env : List Sl) : fNot fa env = (do
  let (b, e1) ← fa env
  pure (!b, e1)) := rfl
theorem fIf_ap (t : Tf) (fa fb : Sf) (env : List Sl) : fIf t fa fb env = (do
  let (b, e1) ← t env
  if b then fa e1 else fb e1) := rfl
theorem fV_ap (t : Tf) (env : List Sl) : fV t env = (do
  let (b, e1) ← t env
  pure (.d (.bool b), e1)) := rfl
theorem fAndV_ap (fa fb : Sf) (env : List Sl) : fAndV fa fb env = (do
  let (b, e1) ← fB fa env
  if b then fb e1 else some (.d (.bool false), e1)) := rfl
theorem fOrV_ap (fa fb : Sf) (env : List Sl) : fOrV fa fb env = (do
  let (b, e1) ← fB fa env
  if b then some (.d (.bool true), e1) else fb e1) := rfl
theorem fL_ap (f : Ff) (env : List Sl) : fL f env = (do
  let (ds, e1) ← f env
  pure (.d (.list ds), e1)) := rfl
theorem fDisp_ap (fs : List Sf) (env : List Sl) : fDisp fs env = (do
  let (rs, e1) ← eA fs env
  fzs e1 rs) := rfl
theorem fSeq_ap (f : Sf) (env : List Sl) : fSeq f env = (do
  let (r, e1) ← f env
  let (d, e2) ← fz e1 r
  let ds ← items d
  pure (ds, e2)) := rfl
theorem fEnum_ap (fs : List Sf) (env : List Sl) : fEnum fs env = (do
  let (rs, e1) ← eA fs env
  let (es, e2) ← fzs e1 rs
  let ds ← enumG es
  pure (ds, e2)) := rfl
theorem fZip_ap (fs : List Sf) (env : List Sl) : fZip fs env = (do
  let (rs, e1) ← eA fs env
  let (es, e2) ← fzs e1 rs
  let ds ← zipG es
  pure (ds, e2)) := rfl
theorem gSh_ap (i : Nat) (d : PyData) (env : List Sl) : gSh i d env = (some (env.set i (.sh d))) := rfl
theorem gTupF_ap (n : Nat) (r : Gfs) (d : PyData) (env : List Sl) : gTupF n r d env = (do
  let ds ← items d
  if ds.length = n then r ds env else none) := rfl
theorem fLc_ap (vs : List Nat) (fi : Ff) (fg : Gf) (ft : Tf) (fe : Sf) (env : List Sl) : fLc vs fi fg ft fe env = (do
  let (ds, e1) ← fi env
  let (out, e2) ← loopLc vs fg ft fe ds (wipeE e1 vs)
  pure (out, restE e1 e2 vs)) := rfl
theorem fYes_ap (env : List Sl) : fYes  env = (some (true, env)) := rfl
theorem fNil_ap (env : List Sl) : fNil  env = (some (.nx env)) := rfl
theorem fThen_ap (f g : Ss) (env : List Sl) : fThen f g env = (do
  let o ← f env
  andThen o g) := rfl
theorem fAsg_ap (i : Nat) (f : Sf) (env : List Sl) : fAsg i f env = (do
  let (r, e1) ← f env
  let (d, e2) ← fz e1 r
  pure (.nx (e2.set i (.sh d)))) := rfl
theorem fOwn_ap (i : Nat) (f : Ff) (env : List Sl) : fOwn i f env = (do
  let (ds, e1) ← f env
  pure (.nx (e1.set i (.mu false (.list ds))))) := rfl
theorem fAsgT_ap (fg : Gf) (f : Sf) (env : List Sl) : fAsgT fg f env = (do
  let (r, e1) ← f env
  let (d, e2) ← fz e1 r
  let e3 ← fg d e2
  pure (.nx e3)) := rfl
theorem fRet_ap (f : Sf) (env : List Sl) : fRet f env = (do
  let (r, e1) ← f env
  let (d, e2) ← fz e1 r
  pure (.rt d e2)) := rfl
theorem fRetF_ap (f : Ff) (env : List Sl) : fRetF f env = (do
  let (ds, e1) ← f env
  pure (.ro (.list ds) e1)) := rfl
theorem fRetN_ap (env : List Sl) : fRetN  env = (some (.rt .none env)) := rfl
theorem fBk_ap (env : List Sl) : fBk  env = (some (.bk env)) := rfl
theorem fCt_ap (env : List Sl) : fCt  env = (some (.ct env)) := rfl
theorem fDrop_ap (f : Sf) (env : List Sl) : fDrop f env = (do
  let (_, e1) ← f env
  pure (.nx e1)) := rfl
theorem fIfS_ap (t : Tf) (fa fb : Ss) (env : List Sl) : fIfS t fa fb env = (do
  let (b, e1) ← t env
  if b then fa e1 else fb e1) := rfl
theorem fFor_ap (fi : Ff) (fg : Gf) (fb : Ss) (env : List Sl) : fFor fi fg fb env = (do
  let (ds, e1) ← fi env
  loopF fg fb ds e1) := rfl
theorem fCallD_ap (mask : List Bool) (F : Fn) (fs : List Sf) (env : List Sl) : fCallD mask F fs env = (do
  let (rs, e1) ← eA fs env
  let (ds, is, e2) ← argsD mask rs e1
  let (r, outs) ← F ds
  let e3 ← setOuts is outs e2
  pure (.d r, e3)) := rfl
theorem fG1_ap (g : PyData → Option PyData) (f : Sf) (env : List Sl) : fG1 g f env = (do
  let (r, e1) ← f env
  let d ← res e1 r
  let x ← g d
  pure (.d x, e1)) := rfl
theorem fIsi_ap (ts : List String) (f : Sf) (env : List Sl) : fIsi ts f env = (do
  let (r, e1) ← f env
  let d ← res e1 r
  let b ← isOf ts d
  pure (.d (.bool b), e1)) := rfl
theorem fSl_ap (f : Sf) (lo hi : Of) (env : List Sl) : fSl f lo hi env = (do
  let (r, e1) ← f env
  let (l, e2) ← lo e1
  let (h, e3) ← hi e2
  let d ← res e3 r
  let x ← sliceD d l h
  pure (.d x, e3)) := rfl
theorem fSlF_ap (f : Sf) (lo hi : Of) (env : List Sl) : fSlF f lo hi env = (do
  let (r, e1) ← f env
  let (l, e2) ← lo e1
  let (h, e3) ← hi e2
  let d ← res e3 r
  match d with
  | .list ds => some (cutD ds l h, e3)
  | _ => none) := rfl
theorem fD_ap (f : Df) (env : List Sl) : fD f env = (do
  let (ps, e1) ← f env
  pure (.d (.dict ps), e1)) := rfl
theorem fOwnD_ap (i : Nat) (f : Df) (env : List Sl) : fOwnD i f env = (do
  let (ps, e1) ← f env
  pure (.nx (e1.set i (.mu false (.dict ps))))) := rfl
theorem fDc_ap (vs : List Nat) (fi : Ff) (fg : Gf) (ft : Tf) (fk fv : Sf) (env : List Sl) : fDc vs fi fg ft fk fv env = (do
  let (ds, e1) ← fi env
  let (out, e2) ← loopDc vs fg ft fk fv ds (wipeE e1 vs) []
  pure (out, restE e1 e2 vs)) := rfl
theorem fT_ap (f : Sf) (env : List Sl) : fT f env = (do
  let (r, e1) ← f env
  let d ← res e1 r
  let b ← truD d
  pure (b, e1)) := rfl
theorem fOrT_ap (fa fb : Sf) (env : List Sl) : fOrT fa fb env = (do
  let (r, e1) ← fa env
  let d ← res e1 r
  let b ← truD d
  if b then some (r, e1) else fb e1) := rfl
theorem fAndT_ap (fa fb : Sf) (env : List Sl) : fAndT fa fb env = (do
  let (r, e1) ← fa env
  let d ← res e1 r
  let b ← truD d
  if b then fb e1 else some (r, e1)) := rfl
theorem fOrF_ap (fa fb : Ff) (env : List Sl) : fOrF fa fb env = (do
  let (ds, e1) ← fa env
  if ds.isEmpty then fb e1 else some (ds, e1)) := rfl
theorem storeD_ap (j : Nat) (i d : PyData) (env : List Sl) : storeD j i d env = (match env[j]? with
  | some (.mu b o) => (putD o i d).map fun o' => .nx (env.set j (.mu b o'))
  | _ => none) := rfl
theorem fPut_ap (j : Nat) (fi f : Sf) (env : List Sl) : fPut j fi f env = (do
  let (r, e1) ← f env
  let (d, e2) ← fz e1 r
  let _ ← muAt j e2
  let (ri, e3) ← fi e2
  let i ← res e3 ri
  storeD j i d e3) := rfl
theorem fCallO_ap (mask : List Bool) (F : Fn) (fs : List Sf) (env : List Sl) : fCallO mask F fs env = (do
  let (rs, e1) ← eA fs env
  let (ds, is, e2) ← argsD mask rs e1
  let (r, outs) ← F ds
  let e3 ← setOuts is outs e2
  match r with
  | .list xs => some (xs, e3)
  | _ => none) := rfl
theorem fCallL_ap (F : Fn) (f : Ff) (env : List Sl) : fCallL F f env = (do
  let (ds, e1) ← f env
  let (r, _) ← F [.list ds]
  pure (.d r, e1)) := rfl
theorem appD_ap (j : Nat) (d : PyData) (env : List Sl) : appD j d env = (match env[j]? with
  | some (.mu b (.list ds)) => if ds.length < sizeLine then some (.nx (env.set j (.mu b (.list (ds ++ [d]))))) else none
  | _ => none) := rfl
theorem fApp_ap (j : Nat) (f : Sf) (env : List Sl) : fApp j f env = (do
  let _ ← isLst j env
  let (r, e1) ← f env
  let (d, e2) ← fz e1 r
  appD j d e2) := rfl
theorem fDg_ap (fo fi : Sf) (env : List Sl) : fDg fo fi env = (do
  let (r, e1) ← fo env
  let (ri, e2) ← fi e1
  let o ← res e2 r
  let i ← res e2 ri
  let d ← dgetD o i
  pure (.d d, e2)) := rfl
theorem fNegI_ap (f : Sf) (env : List Sl) : fNegI f env = (do
  let (r, e1) ← f env
  let d ← res e1 r
  match d with
  | .int i => some (.d (.int (-i)), e1)
  | _ => none) := rfl
theorem fPar_ap (is : List Nat) (fs : List Sf) (env : List Sl) : fPar is fs env = (do
  let (rs, e1) ← eA fs env
  let (ds, e2) ← fzs e1 rs
  pure (.nx ((is.zip ds).foldl (fun e p => e.set p.1 (.sh p.2)) e2))) := rfl
theorem fCallKw_ap (mask : List Bool) (F : Fn) (perm : List Nat) (fs : List Sf) (env : List Sl) : fCallKw mask F perm fs env = (do
  let (rs, e1) ← eA fs env
  let (ds, is, e2) ← argsD mask (pick perm rs) e1
  let (r, outs) ← F ds
  let e3 ← setOuts is outs e2
  pure (.d r, e3)) := rfl
theorem fChain_ap (g g' : PyData → PyData → Option PyData) (fa fb fc : Sf) (env : List Sl) : fChain g g' fa fb fc env = (do
  let (ra, e1) ← fa env
  let (rb, e2) ← fb e1
  let a ← res e2 ra
  let b ← res e2 rb
  let z ← g a b
  let t ← asBool z
  if t then do
    let (rc, e3) ← fc e2
    let b2 ← res e3 rb
    let d ← res e3 rc
    let w ← g' b2 d
    pure (.d w, e3)
  else pure (.d (.bool false), e2)) := rfl
theorem fGet2_ap (fo fi fx : Sf) (env : List Sl) : fGet2 fo fi fx env = (do
  let (r, e1) ← fo env
  let o0 ← res e1 r
  let _ ← dicOf o0
  let (ri, e2) ← fi e1
  let (rx, e3) ← fx e2
  let o ← res e3 r
  let ps ← dicOf o
  let i ← res e3 ri
  let k ← keyOf? i
  match getP ps k with
  | some d => some (.d d, e3)
  | none => some (rx, e3)) := rfl
theorem fGet1_ap (fo fi : Sf) (env : List Sl) : fGet1 fo fi env = (do
  let (r, e1) ← fo env
  let o0 ← res e1 r
  let _ ← dicOf o0
  let (ri, e2) ← fi e1
  let o ← res e2 r
  let ps ← dicOf o
  let i ← res e2 ri
  let k ← keyOf? i
  pure (.d ((getP ps k).getD .none), e2)) := rfl
theorem fStr_ap (f : Sf) (env : List Sl) : fStr f env = (do
  let (r, e1) ← f env
  match res e1 r with
  | some (.str x) => if x.cps.size ≤ sizeLine then some (signs x, e1) else none
  | _ => none) := rfl
theorem fWalk_ap (f : Sf) (env : List Sl) : fWalk f env = ((fSeq f env).or (fStr f env)) := rfl
theorem fNotT_ap (f : Sf) (env : List Sl) : fNotT f env = fV (fNot (fT f)) env := rfl
theorem fNotV_ap (f : Sf) (env : List Sl) : fNotV f env = fV (fNot (fB f)) env := rfl
theorem fG1F_ap (g : PyData → Option (List PyData)) (f : Sf) (env : List Sl) : fG1F g f env = (do
  let (r, e1) ← f env
  let d ← res e1 r
  let ds ← g d
  pure (ds, e1)) := rfl
theorem fOpF_ap (g : PyData → PyData → Option (List PyData)) (fa fb : Sf) (env : List Sl) : fOpF g fa fb env = (do
  let (r1, e1) ← fa env
  let (r2, e2) ← fb e1
  let d1 ← res e2 r1
  let d2 ← res e2 r2
  let ds ← g d1 d2
  pure (ds, e2)) := rfl
theorem fCallF_ap (g : List PyData → Option (List PyData)) (fs : List Sf) (env : List Sl) : fCallF g fs env = (do
  let (rs, e1) ← eA fs env
  let ds ← ress e1 rs
  let d ← g ds
  pure (d, e1)) := rfl
theorem runD_ap (mask : List Bool) (n : Nat) (fb : Ss) (ds : List PyData) : runD mask n fb ds = (do
  let o ← fb (argEnv mask ds ++ List.replicate (n - mask.length) .no)
  ended mask o) := rfl
theorem runO_ap (mask : List Bool) (n : Nat) (fb : Ss) (ds : List PyData) : runO mask n fb ds = (do
  let o ← fb (argEnv mask ds ++ List.replicate (n - mask.length) .no)
  endedO mask o) := rfl
theorem loopF_nil (fg : Gf) (fb : Ss) (env : List Sl) : loopF fg fb [] env = some (.nx env) := rfl
theorem loopF_cons (fg : Gf) (fb : Ss) (d : PyData) (ds : List PyData) (env : List Sl) : loopF fg fb (d :: ds) env = (do
    let e1 ← fg d env
    let o ← fb e1
    again o (loopF fg fb ds)) := rfl
theorem loopW_zero (ft : Tf) (fb : Ss) (env : List Sl) : loopW ft fb 0 env = none := rfl
theorem loopW_succ (ft : Tf) (fb : Ss) (n : Nat) (env : List Sl) : loopW ft fb (n + 1) env = (do
    let (b, e1) ← ft env
    if b then do
      let o ← fb e1
      again o (loopW ft fb n)
    else some (.nx e1)) := rfl
end L2.Lp

set_option Elab.async false
set_option linter.all false
set_option maxRecDepth 100000
set_option maxHeartbeats 4000000
/-! comprehensions and walks over data that come of typed values -/
namespace L2.Lp
open PySem
/-- one turn of a comprehension -/
def turnLc (vs : List Nat) (fg : Gf) (ft : Tf) (fe : Sf) (d : PyData) (env : List Sl) : Option (Option PyData × List Sl) := do
  let e1 ← fg d env
  let (b, e2) ← ft e1
  if b then do
    let (r, e3) ← fe e2
    let (x, e4) ← fz e3 r
    pure (some x, wipeE e4 vs)
  else pure (none, wipeE e2 vs)
theorem loopLc_step (vs : List Nat) (fg : Gf) (ft : Tf) (fe : Sf) (d : PyData) (ds : List PyData) (env : List Sl) : loopLc vs fg ft fe (d :: ds) env = (fg d env).bind fun e1 => (ft e1).bind fun p => if p.1 = true then (fe p.2).bind fun q => (fz q.2 q.1).bind fun y => (loopLc vs fg ft fe ds (wipeE y.2 vs)).bind fun z => some (y.1 :: z.1, z.2) else loopLc vs fg ft fe ds (wipeE p.2 vs) := rfl
theorem loopLc_cons (vs : List Nat) (fg : Gf) (ft : Tf) (fe : Sf) (d : PyData) (ds : List PyData) (env : List Sl) :
    loopLc vs fg ft fe (d :: ds) env = (turnLc vs fg ft fe d env).bind fun p => (loopLc vs fg ft fe ds p.2).map fun q => (p.1.toList ++ q.1, q.2) := by
  rw [loopLc_step]
  unfold turnLc
  simp only [Option.bind_eq_bind, Option.pure_def]
  cases fg d env with
  | none => rfl
  | some e1 =>
    simp only [Option.bind_some]
    cases ft e1 with
    | none => rfl
    | some p =>
      obtain ⟨b, e2⟩ := p
      cases b with
      | false => simp only [Option.bind_some, Bool.false_eq_true, if_false]; cases loopLc vs fg ft fe ds (wipeE e2 vs) <;> rfl
      | true =>
        simp only [Option.bind_some, if_true]
        cases fe e2 with
        | none => rfl
        | some p =>
          obtain ⟨r, e3⟩ := p
          simp only [Option.bind_some]
          cases fz e3 r with
          | none => rfl
          | some p =>
            obtain ⟨x, e4⟩ := p
            simp only [Option.bind_some]
            cases loopLc vs fg ft fe ds (wipeE e4 vs) <;> rfl
theorem loopLc_nil (vs : List Nat) (fg : Gf) (ft : Tf) (fe : Sf) (env : List Sl) : loopLc vs fg ft fe [] env = some ([], env) := rfl
section
variable {X : Type} {enc : X → PyData} {vs : List Nat} {fg : Gf} {ft : Tf} {fe : Sf} {env0 : List Sl}
theorem lc_opt (ψ : X → Option PyData) : ∀ (xs : List X), (∀ x ∈ xs, turnLc vs fg ft fe (enc x) env0 = some (ψ x, env0)) → loopLc vs fg ft fe (xs.map enc) env0 = some (xs.filterMap ψ, env0)
  | [], _ => rfl
  | x :: xs, h => by
    rw [List.map_cons, loopLc_cons, h x (by simp), Option.bind_some, lc_opt ψ xs fun y hy => h y (by simp [hy])]
    cases hx : ψ x <;> simp [hx]
theorem lc_all (φ : X → PyData) (xs : List X) (h : ∀ x ∈ xs, turnLc vs fg ft fe (enc x) env0 = some (some (φ x), env0)) : loopLc vs fg ft fe (xs.map enc) env0 = some (xs.map φ, env0) := by
  rw [lc_opt (fun x => some (φ x)) xs h, ← List.filterMap_eq_map]
  rfl
theorem lc_if (τ : X → Bool) (φ : X → PyData) (xs : List X) (h : ∀ x ∈ xs, turnLc vs fg ft fe (enc x) env0 = some (if τ x = true then some (φ x) else none, env0)) : loopLc vs fg ft fe (xs.map enc) env0 = some ((xs.filter τ).map φ, env0) := by
  rw [lc_opt (fun x => if τ x = true then some (φ x) else none) xs h]
  congr 2
  induction xs with
  | nil => rfl
  | cons x xs ih =>
    have ih := ih fun y hy => h y (by simp [hy])
    cases hx : τ x <;> simp [hx, ih]
/-- a comprehension that changes what it draws from -/
theorem lc_state {all : List X} (I : List X → List PyData → List Sl → Prop) : ∀ (xs : List X) (pre : List X) (out : List PyData) (env : List Sl), pre ++ xs = all → I pre out env →
    (∀ pre x post out env, pre ++ x :: post = all → I pre out env → ∃ o env', turnLc vs fg ft fe (enc x) env = some (o, env') ∧ I (pre ++ [x]) (out ++ o.toList) env') →
    ∃ outs env', loopLc vs fg ft fe (xs.map enc) env = some (outs, env') ∧ I all (out ++ outs) env'
  | [], pre, out, env, ha, h, _ => ⟨[], env, rfl, by simpa [← ha] using h⟩
  | x :: xs, pre, out, env, ha, h, k => by
    obtain ⟨o, e1, h1, h2⟩ := k pre x xs out env ha h
    obtain ⟨outs, e2, h3, h4⟩ := lc_state I xs (pre ++ [x]) (out ++ o.toList) e1 (by simpa using ha) h2 k
    refine ⟨o.toList ++ outs, e2, ?_, by simpa using h4⟩
    rw [List.map_cons, loopLc_cons, h1, Option.bind_some, h3]
    rfl
/-- a walk that ends early, or goes on -/
theorem loop_any {fb : Ss} (p : X → Bool) (dd : PyData) (I : List Sl → Prop) : ∀ (xs : List X) (env : List Sl), I env →
    (∀ x ∈ xs, ∀ env, I env → ∃ o, ((fg (enc x) env).bind fb) = some o ∧ (p x = true → ∃ e, o = .rt dd e ∧ I e) ∧ (p x = false → ∃ e, o = .nx e ∧ I e)) →
    ∃ o, loopF fg fb (xs.map enc) env = some o ∧ (xs.any p = true → ∃ e, o = .rt dd e ∧ I e) ∧ (xs.any p = false → ∃ e, o = .nx e ∧ I e)
  | [], env, h, _ => ⟨.nx env, rfl, by simp, fun _ => ⟨env, rfl, h⟩⟩
  | x :: xs, env, h, k => by
    obtain ⟨o, h1, h2, h3⟩ := k x (by simp) env h
    rw [List.map_cons]
    show ∃ o, (do
      let e1 ← fg (enc x) env
      let o ← fb e1
      again o (loopF fg fb (xs.map enc))) = some o ∧ _
    have heq : (do
      let e1 ← fg (enc x) env
      let o ← fb e1
      again o (loopF fg fb (xs.map enc))) = again o (loopF fg fb (xs.map enc)) := by
      simp only [Option.bind_eq_bind]
      rw [← Option.bind_assoc, h1]
      rfl
    rw [heq]
    cases hp : p x with
    | true =>
      obtain ⟨e, rfl, he⟩ := h2 hp
      exact ⟨_, rfl, fun _ => ⟨e, rfl, he⟩, by simp [hp]⟩
    | false =>
      obtain ⟨e, rfl, he⟩ := h3 hp
      obtain ⟨o, h4, h5, h6⟩ := loop_any p dd I xs e he fun y hy => k y (by simp [hy])
      exact ⟨o, h4, by simpa [hp] using h5, by simpa [hp] using h6⟩
/-- a walk with an invariant -/
theorem loop_inv {fb : Ss} {all : List X} (I : List X → List Sl → Prop) : ∀ (xs : List X) (pre : List X) (env : List Sl), pre ++ xs = all → I pre env →
    (∀ pre x post env, pre ++ x :: post = all → I pre env → ∃ e, ((fg (enc x) env).bind fb) = some (.nx e) ∧ I (pre ++ [x]) e) → ∃ e, loopF fg fb (xs.map enc) env = some (.nx e) ∧ I all e
  | [], pre, env, ha, h, _ => ⟨env, rfl, by simpa [← ha] using h⟩
  | x :: xs, pre, env, ha, h, k => by
    obtain ⟨e, h1, h2⟩ := k pre x xs env ha h
    obtain ⟨e2, h3, h4⟩ := loop_inv I xs (pre ++ [x]) e (by simpa using ha) h2 k
    refine ⟨e2, ?_, h4⟩
    rw [List.map_cons]
    show (do
      let e1 ← fg (enc x) env
      let o ← fb e1
      again o (loopF fg fb (xs.map enc))) = _
    simp only [Option.bind_eq_bind]
    rw [← Option.bind_assoc, h1]
    exact h3
end
/-! the same, for what comes behind -/
section
variable {X β : Type} {enc : X → PyData} {vs : List Nat} {fg : Gf} {ft : Tf} {fe : Sf} {fb : Ss} {env0 : List Sl}
theorem lc_all_k (φ : X → PyData) {xs : List X} {k : List PyData × List Sl → Option β} {z : Option β} (h : ∀ x ∈ xs, turnLc vs fg ft fe (enc x) env0 = some (some (φ x), env0)) (hk : k (xs.map φ, env0) = z) : (loopLc vs fg ft fe (xs.map enc) env0).bind k = z := by
  rw [lc_all φ xs h]
  exact hk
theorem lc_if_k (τ : X → Bool) (φ : X → PyData) {xs : List X} {k : List PyData × List Sl → Option β} {z : Option β} (h1 : ∀ x ∈ xs, τ x = true → turnLc vs fg ft fe (enc x) env0 = some (some (φ x), env0)) (h0 : ∀ x ∈ xs, τ x = false → turnLc vs fg ft fe (enc x) env0 = some (none, env0)) (hk : k ((xs.filter τ).map φ, env0) = z) : (loopLc vs fg ft fe (xs.map enc) env0).bind k = z := by
  rw [lc_if τ φ xs fun x hx => by
    cases ht : τ x with
    | true => rw [h1 x hx ht]; rfl
    | false => rw [h0 x hx ht]; rfl]
  exact hk
theorem lc_state_k (I : List X → List PyData → List Sl → Prop) {xs : List X} {env : List Sl} {k : List PyData × List Sl → Option β} {C : Option β → Prop} (hI : I [] [] env)
    (h : ∀ pre x post out env, pre ++ x :: post = xs → I pre out env → ∃ o env', turnLc vs fg ft fe (enc x) env = some (o, env') ∧ I (pre ++ [x]) (out ++ o.toList) env') (hk : ∀ outs env', I xs outs env' → C (k (outs, env'))) : C ((loopLc vs fg ft fe (xs.map enc) env).bind k) := by
  obtain ⟨outs, e, h1, h2⟩ := lc_state I xs [] [] env rfl hI h
  rw [h1]
  exact hk outs e (by simpa using h2)
theorem loop_any_k (p : X → Bool) (dd : PyData) (I : List Sl → Prop) {xs : List X} {env : List Sl} {k : Out → Option β} {z : Option β} (hI : I env)
    (h : ∀ x ∈ xs, ∀ env, I env → ∃ o, ((fg (enc x) env).bind fb) = some o ∧ (p x = true → ∃ e, o = .rt dd e ∧ I e) ∧ (p x = false → ∃ e, o = .nx e ∧ I e))
    (h1 : xs.any p = true → ∀ e, I e → k (.rt dd e) = z) (h0 : xs.any p = false → ∀ e, I e → k (.nx e) = z) : (loopF fg fb (xs.map enc) env).bind k = z := by
  obtain ⟨o, h9, a, b⟩ := loop_any p dd I xs env hI h
  rw [h9, Option.bind_some]
  cases hp : xs.any p with
  | true =>
    obtain ⟨e, rfl, he⟩ := a hp
    exact h1 hp e he
  | false =>
    obtain ⟨e, rfl, he⟩ := b hp
    exact h0 hp e he
theorem loop_inv_k (I : List X → List Sl → Prop) {xs : List X} {env : List Sl} {k : Out → Option β} {z : Option β} (hI : I [] env)
    (h : ∀ pre x post env, pre ++ x :: post = xs → I pre env → ∃ e, ((fg (enc x) env).bind fb) = some (.nx e) ∧ I (pre ++ [x]) e) (hk : ∀ e, I xs e → k (.nx e) = z) : (loopF fg fb (xs.map enc) env).bind k = z := by
  obtain ⟨e, h1, h2⟩ := loop_inv I xs [] env rfl hI h
  rw [h1]
  exact hk e h2
end
theorem boolsOf_map {X : Type} (f : X → Bool) : ∀ xs : List X, boolsOf (xs.map fun x => .bool (f x)) = some (xs.map f)
  | [] => rfl
  | x :: xs => by
    rw [List.map_cons, boolsOf, boolsOf_map f xs]
    rfl
theorem intsOf_map {X : Type} (f : X → Int) : ∀ xs : List X, intsOf (xs.map fun x => .int (f x)) = some (xs.map f)
  | [] => rfl
  | x :: xs => by
    rw [List.map_cons, intsOf, intsOf_map f xs]
    rfl
theorem any_map {X : Type} (f : X → Bool) (xs : List X) : anyD (.list (xs.map fun x => .bool (f x))) = some (.bool (xs.any f)) := by
  simp [anyD, onL, boolsOf_map, List.any_map, Function.comp_def]
theorem all_map {X : Type} (f : X → Bool) (xs : List X) : allD (.list (xs.map fun x => .bool (f x))) = some (.bool (xs.all f)) := by
  simp [allD, onL, boolsOf_map, List.all_map, Function.comp_def]
theorem sum_map {X : Type} (f : X → Int) (xs : List X) : sumD (.list (xs.map fun x => .int (f x))) = some (.int (xs.map f).sum) := by
  simp [sumD, onL, intsOf_map]
/-! ### a sequence that is a tuple or a list -/
def sq (b : Bool) (ds : List PyData) : PyData := if b = true then .tuple ds else .list ds
@[simp] theorem items_sq (b : Bool) (ds : List PyData) : items (sq b ds) = some ds := by cases b <;> rfl
theorem items_list (ds : List PyData) : items (.list ds) = some ds := rfl
theorem items_tuple (ds : List PyData) : items (.tuple ds) = some ds := rfl
theorem tupD_list (ds : List PyData) : tupD (.list ds) = some (.tuple ds) := rfl
theorem tupD_tuple (ds : List PyData) : tupD (.tuple ds) = some (.tuple ds) := rfl
theorem tupD_sq (b : Bool) (ds : List PyData) : tupD (sq b ds) = some (.tuple ds) := by cases b <;> rfl
theorem lenD_list (ds : List PyData) : lenD (.list ds) = some (.int ds.length) := rfl
theorem lenD_tuple (ds : List PyData) : lenD (.tuple ds) = some (.int ds.length) := rfl
theorem lenD_sq (b : Bool) (ds : List PyData) : lenD (sq b ds) = some (.int ds.length) := by cases b <;> rfl
theorem intD_int (i : Int) : intD (.int i) = some (.int i) := rfl
theorem intD_bool (b : Bool) : intD (.bool b) = some (.int (if b then 1 else 0)) := rfl
theorem absD_int (i : Int) : absD (.int i) = some (.int (if i < 0 then -i else i)) := rfl
theorem truD_none : truD .none = some false := rfl
theorem truD_bool (b : Bool) : truD (.bool b) = some b := rfl
theorem truD_int (i : Int) : truD (.int i) = some (i != 0) := rfl
theorem truD_list (ds : List PyData) : truD (.list ds) = some (!ds.isEmpty) := rfl
theorem truD_tuple (ds : List PyData) : truD (.tuple ds) = some (!ds.isEmpty) := rfl
theorem truD_sq (b : Bool) (ds : List PyData) : truD (sq b ds) = some (!ds.isEmpty) := by cases b <;> rfl
theorem gIx_int (d : PyData) (j : Int) : gIx d (.int j) = (items d).bind fun ds => L2.atI ds j := rfl
theorem asB_bool (b : Bool) : asB (.d (.bool b)) = some b := rfl
theorem g1_one (f : PyData → Option PyData) (d : PyData) : g1 f [d] = f d := rfl
theorem g1L_one (f : PyData → Option (List PyData)) (d : PyData) : g1L f [d] = f d := rfl
theorem g2i_two (f : Int → Int → Int) (i j : Int) : g2i f [.int i, .int j] = some (.int (f i j)) := rfl
theorem gInt_two (f : Int → Int → Option PyData) (i j : Int) : gInt f (.int i) (.int j) = f i j := rfl
theorem res_d (env : Ev) (x : PyData) : res env (.d x) = some x := rfl
theorem res_bor (env : Ev) (i : Nat) : res env (.bor i) = match env[i]? with
    | some (Sl.sh d) => some d
    | some (Sl.mu _ d) => some d
    | _ => none := rfl
theorem fz_d (env : Ev) (x : PyData) : fz env (.d x) = some (x, env) := rfl
theorem fz_bor (env : Ev) (i : Nat) : fz env (.bor i) = match env[i]? with
    | some (Sl.sh d) => some (d, env)
    | some (Sl.mu false d) => some (d, env.set i (Sl.sh d))
    | _ => none := rfl
theorem andThen_nx (env : List Sl) (g : Ss) : andThen (.nx env) g = g env := rfl
theorem andThen_rt (d : PyData) (env : List Sl) (g : Ss) : andThen (.rt d env) g = some (.rt d env) := rfl
theorem andThen_ro (d : PyData) (env : List Sl) (g : Ss) : andThen (.ro d env) g = some (.ro d env) := rfl
theorem andThen_bk (env : List Sl) (g : Ss) : andThen (.bk env) g = some (.bk env) := rfl
theorem andThen_ct (env : List Sl) (g : Ss) : andThen (.ct env) g = some (.ct env) := rfl
theorem again_nx (env : List Sl) (k : List Sl → Option Out) : again (.nx env) k = k env := rfl
theorem again_ct (env : List Sl) (k : List Sl → Option Out) : again (.ct env) k = k env := rfl
theorem again_bk (env : List Sl) (k : List Sl → Option Out) : again (.bk env) k = some (.nx env) := rfl
theorem again_rt (d : PyData) (env : List Sl) (k : List Sl → Option Out) : again (.rt d env) k = some (.rt d env) := rfl
theorem again_ro (d : PyData) (env : List Sl) (k : List Sl → Option Out) : again (.ro d env) k = some (.ro d env) := rfl
theorem ended_rt (mask : List Bool) (d : PyData) (env : List Sl) : ended mask (.rt d env) = (outsOf mask env).bind fun o => some (d, o) := rfl
theorem ended_nx (mask : List Bool) (env : List Sl) : ended mask (.nx env) = (outsOf mask env).bind fun o => some (.none, o) := rfl
theorem ended_ro (mask : List Bool) (d : PyData) (env : List Sl) : ended mask (.ro d env) = (outsOf mask env).bind fun o => some (d, o) := rfl
theorem endedO_ro (mask : List Bool) (d : PyData) (env : List Sl) : endedO mask (.ro d env) = (outsOf mask env).bind fun o => some (d, o) := rfl
theorem fWalk_of {f : Sf} {env : List Sl} {r : R} {e1 e2 : List Sl} {d : PyData} {ds : List PyData} (h1 : f env = some (r, e1)) (h2 : fz e1 r = some (d, e2)) (h3 : items d = some ds) : fWalk f env = some (ds, e2) := by
  unfold fWalk fSeq
  simp [h1, h2, h3]
theorem plus_int (i j : Int) : gPlus (.int i) (.int j) = some (.int (i + j)) := rfl
theorem plus_tup {xs ys : List PyData} (h : xs.length + ys.length ≤ 16777216) : gPlus (.tuple xs) (.tuple ys) = some (.tuple (xs ++ ys)) := by
  unfold gPlus gAdd
  simp [h]
theorem plus_list {xs ys : List PyData} (h : xs.length + ys.length ≤ 16777216) : gPlus (.list xs) (.list ys) = some (.list (xs ++ ys)) := by
  unfold gPlus gAdd gCat
  simp [h]
theorem sub_int (i j : Int) : gSub (.int i) (.int j) = some (.int (i - j)) := rfl
theorem mod_int {i j : Int} (h : 0 < j) : gMod (.int i) (.int j) = some (.int (i % j)) := by
  show (if 0 < j then _ else none) = _
  rw [if_pos h]
theorem int_eq (i j : Int) : gEq (.int i) (.int j) = some (.bool (decide (i = j))) := by
  unfold gEq
  have s : ∀ k : Int, SeqAt.shaped (.int k) = true := fun k => rfl
  rw [if_pos ⟨s i, s j⟩]
  rfl
theorem int_ne (i j : Int) : gNe (.int i) (.int j) = some (.bool (!decide (i = j))) := by
  unfold gNe
  have s : ∀ k : Int, SeqAt.shaped (.int k) = true := fun k => rfl
  rw [if_pos ⟨s i, s j⟩]
  rfl
theorem int_lt (i j : Int) : gLtA (.int i) (.int j) = some (.bool (decide (i < j))) := rfl
theorem int_le (i j : Int) : gLeA (.int i) (.int j) = some (.bool (decide (i ≤ j))) := rfl
theorem int_gt (i j : Int) : gGtA (.int i) (.int j) = some (.bool (decide (j < i))) := rfl
theorem int_ge (i j : Int) : gGeA (.int i) (.int j) = some (.bool (decide (j ≤ i))) := rfl
theorem atI_map {X : Type} (enc : X → PyData) (xs : List X) (i : Nat) (h : i < xs.length) : L2.atI (xs.map enc) (i : Int) = some (enc xs[i]) := by
  unfold L2.atI L2.ixN
  simp [h]
theorem atI_0 (d : PyData) (ds : List PyData) : L2.atI (d :: ds) 0 = some d := by
  unfold L2.atI L2.ixN
  simp
theorem atI_1 (d e : PyData) (ds : List PyData) : L2.atI (d :: e :: ds) 1 = some e := by
  unfold L2.atI L2.ixN
  have : (1 : Int) < ((d :: e :: ds).length : Int) := by simp; omega
  rw [if_pos (by decide), if_pos this]
  rfl
theorem atI_2 (d e f : PyData) (ds : List PyData) : L2.atI (d :: e :: f :: ds) 2 = some f := by
  unfold L2.atI L2.ixN
  have : (2 : Int) < ((d :: e :: f :: ds).length : Int) := by simp; omega
  rw [if_pos (by decide), if_pos this]
  rfl
theorem isNo_none : isNo .none = true := rfl
theorem isSome_kw {env : Ev} : oNone env = some (none, env) := rfl
theorem isOf_seq (d : PyData) : isOf ["list", "tuple"] d = some (match d with
    | .list _ => true
    | .tuple _ => true
    | _ => false) := by
  cases d <;> (simp only [isOf, tyN]; decide +kernel)
end L2.Lp

set_option Elab.async false
set_option linter.all false
set_option maxRecDepth 100000
set_option maxHeartbeats 4000000
/-! typed values as data: equality, membership, order, sorting, sets -/
namespace L2.Lp
open PySem PySem.W
structure IsEnc {X : Type} (enc : X → PyData) (t : Ty) : Prop where
  has : ∀ x, hasT (enc x) t = true
  inj : ∀ x y, enc x = enc y → x = y
  dep : t.dep ≤ 40
theorem hasA_map {X : Type} {enc : X → PyData} {t : Ty} (h : ∀ x, hasT (enc x) t = true) : ∀ xs : List X, hasA (xs.map enc) t = true
  | [] => rfl
  | x :: xs => by rw [List.map_cons, hasA, h x, hasA_map h xs]; rfl
theorem map_inj {X : Type} {enc : X → PyData} (h : ∀ x y, enc x = enc y → x = y) : ∀ xs ys : List X, xs.map enc = ys.map enc → xs = ys
  | [], [], _ => rfl
  | [], _ :: _, e => by cases e
  | _ :: _, [], e => by cases e
  | x :: xs, y :: ys, e => by
    simp only [List.map_cons, List.cons.injEq] at e
    rw [h x y e.1, map_inj h xs ys e.2]
theorem sq_inj {b : Bool} {xs ys : List PyData} (h : sq b xs = sq b ys) : xs = ys := by
  cases b <;> simpa [sq] using h
theorem IsEnc.seq {X : Type} {enc : X → PyData} {t : Ty} (h : IsEnc enc t) (b : Bool) (k : t.dep + 1 ≤ 40) : IsEnc (fun xs : List X => sq b (xs.map enc)) (.seq b t) where
  has xs := by cases b <;> exact hasA_map h.has xs
  inj xs ys e := map_inj h.inj xs ys (sq_inj e)
  dep := k
theorem IsEnc.pair {X Y : Type} {ea : X → PyData} {eb : Y → PyData} {t u : Ty} (h : IsEnc ea t) (k : IsEnc eb u) (b : Bool) (l : max t.dep u.dep + 1 ≤ 40) : IsEnc (fun p : X × Y => sq b [ea p.1, eb p.2]) (.row b [t, u]) where
  has p := by cases b <;> simp [sq, hasT, hasR, h.has, k.has]
  inj p q e := by
    have := sq_inj e
    simp only [List.cons.injEq] at this
    exact Prod.ext (h.inj _ _ this.1) (k.inj _ _ this.2.1)
  dep := by simp only [Ty.dep, Ty.depA]; omega
structure Nm where
  s : Str
  ok : PyData.strOk s = true
  deriving DecidableEq
def eNm (a : Nm) : PyData := .str a.s
theorem enc_nm : IsEnc eNm .str where
  has a := a.ok
  inj a b e := by
    simp only [eNm, PyData.str.injEq] at e
    cases a
    cases b
    cases e
    rfl
  dep := by decide
def eBool (b : Bool) : PyData := .bool b
theorem enc_bool : IsEnc eBool .bool where
  has _ := rfl
  inj a b e := by simpa [eBool] using e
  dep := by decide
def eInt (b : Int) : PyData := .int b
theorem enc_int : IsEnc eInt .int where
  has _ := rfl
  inj a b e := by simpa [eInt] using e
  dep := by decide
section
variable {X : Type} {enc : X → PyData} {t : Ty}
theorem eqv_enc [DecidableEq X] (h : IsEnc enc t) (x y : X) : PyData.eqv (enc x) (enc y) = decide (x = y) := by
  have k := has_eqv_iff (h.has x) (h.has y)
  by_cases e : x = y
  · rw [decide_eq_true e]
    exact k.mpr (by rw [e])
  · rw [decide_eq_false e]
    cases z : PyData.eqv (enc x) (enc y) with
    | false => rfl
    | true => exact absurd (h.inj _ _ (k.mp z)) e
theorem shaped_enc (h : IsEnc enc t) (x : X) : SeqAt.shaped (enc x) = true := has_shaped (h.has x) (Nat.le_trans h.dep (by decide))
theorem eq_enc [DecidableEq X] (h : IsEnc enc t) (x y : X) : gEq (enc x) (enc y) = some (.bool (decide (x = y))) := by
  unfold gEq
  rw [if_pos ⟨shaped_enc h x, shaped_enc h y⟩, eqv_enc h]
theorem ne_enc [DecidableEq X] (h : IsEnc enc t) (x y : X) : gNe (enc x) (enc y) = some (.bool (!decide (x = y))) := by
  unfold gNe
  rw [if_pos ⟨shaped_enc h x, shaped_enc h y⟩, eqv_enc h]
theorem has_shapedA (h : IsEnc enc t) (b : Bool) (xs : List X) : SeqAt.shaped (sq b (xs.map enc)) = true := by
  have d := h.dep
  refine has_shaped (t := .seq b t) ?_ (by simp only [Ty.dep]; omega)
  cases b <;> exact hasA_map h.has xs
theorem in_enc [DecidableEq X] (h : IsEnc enc t) (neg b : Bool) (x : X) (xs : List X) [Decidable (x ∈ xs)] : gInB neg (enc x) (sq b (xs.map enc)) = some (.bool (neg != decide (x ∈ xs))) := by
  have e : (xs.map enc).any (fun z => PyData.eqv z (enc x)) = decide (x ∈ xs) := by
    rw [List.any_map]
    simp only [Function.comp_def, eqv_enc h]
    rw [Bool.eq_iff_iff]
    simp [List.any_eq_true]
  unfold gInB gIn
  simp only [items_sq, Option.bind_eq_bind, Option.bind_some, shaped_enc h, has_shapedA h, and_self, if_true, e]
  cases neg <;> cases decide (x ∈ xs) <;> rfl
/-! order -/
theorem ordOk_enc (h : IsEnc enc t) (x y : X) (hn : ∀ x, isNo (enc x) = false) (hd : ∀ x, noD (enc x) = true) : ordOk (enc x) (enc y) = true := by
  have a := has_alike _ _ _ (h.has x) (h.has y)
  have b := (has_lay _ _ (h.has x)).2
  have := h.dep
  unfold ordOk
  simp only [a, hn, hd, Bool.not_false, Bool.and_true, Bool.true_and, decide_eq_true_eq]
  omega
mutual
theorem has_noD : ∀ (d : PyData) (t : Ty), hasT d t = true → noD d = true
  | .str _, t, h1 => rfl
  | .bool _, t, h1 => rfl
  | .int _, t, h1 => rfl
  | .none, t, h1 => rfl
  | .dict _, t, h1 => by cases t <;> simp_all [hasT]
  | .tuple ds, t, h1 => by
    cases t with
    | seq b t =>
      cases b <;> simp [hasT] at h1
      simpa [noD] using has_noDA ds t h1
    | row b ts =>
      cases b <;> simp [hasT] at h1
      simpa [noD] using has_noDR ds ts h1
    | _ => simp [hasT] at h1
  | .list ds, t, h1 => by
    cases t with
    | seq b t =>
      cases b <;> simp [hasT] at h1
      simpa [noD] using has_noDA ds t h1
    | row b ts =>
      cases b <;> simp [hasT] at h1
      simpa [noD] using has_noDR ds ts h1
    | _ => simp [hasT] at h1
theorem has_noDA : ∀ (ds : List PyData) (t : Ty), hasA ds t = true → noDs ds = true
  | [], _, _ => by simp [noDs]
  | d :: ds, t, h1 => by
    simp only [hasA, Bool.and_eq_true] at h1
    simp [noDs, has_noD d t h1.1, has_noDA ds t h1.2]
theorem has_noDR : ∀ (ds : List PyData) (ts : List Ty), hasR ds ts = true → noDs ds = true
  | [], _, _ => by simp [noDs]
  | d :: ds, [], h1 => by simp [hasR] at h1
  | d :: ds, t :: ts, h1 => by
    simp only [hasR, Bool.and_eq_true] at h1
    simp [noDs, has_noD d t h1.1, has_noDR ds ts h1.2]
end
theorem has_no : ∀ {d : PyData} {t : Ty}, hasT d t = true → isNo d = false
  | .none, t, h => by cases t <;> simp_all [hasT]
  | .bool _, _, _ | .int _, _, _ | .str _, _, _ | .list _, _, _ | .tuple _, _, _ | .dict _, _, _ => rfl
/-- < of data that are no ints -/
theorem lt_enc (h : IsEnc enc t) (x y : X) (hi : ∀ i, enc x ≠ .int i) : gLtA (enc x) (enc y) = some (.bool (dataLt (enc x) (enc y))) := by
  have o := ordOk_enc h x y (fun x => has_no (h.has x)) (fun x => has_noD _ _ (h.has x))
  have g : gLt (enc x) (enc y) = none := by
    unfold gLt gInt
    cases z : enc x with
    | int i => exact absurd z (hi i)
    | _ => rfl
  unfold gLtA gOrd
  rw [g, if_pos o]
  rfl
/-! sorting -/
def sortX (enc : X → PyData) (xs : List X) : List X := isort (fun x y => leD (enc x) (enc y)) xs
theorem ins_enc (x : X) : ∀ xs : List X, ins leD (enc x) (xs.map enc) = (ins (fun x y => leD (enc x) (enc y)) x xs).map enc
  | [] => rfl
  | y :: ys => by
    simp only [List.map_cons, ins]
    split
    · rfl
    · rw [ins_enc x ys]
      rfl
theorem sortD_enc : ∀ xs : List X, sortD (xs.map enc) = (sortX enc xs).map enc
  | [] => rfl
  | x :: xs => by
    show ins leD (enc x) (sortD (xs.map enc)) = _
    rw [sortD_enc xs, ins_enc]
    rfl
theorem mem_ins {α : Type} {le : α → α → Bool} {x z : α} : ∀ {l : List α}, z ∈ ins le x l ↔ z = x ∨ z ∈ l
  | [] => by simp [ins]
  | y :: ys => by
    unfold ins
    split
    · simp
    · simp only [List.mem_cons, mem_ins (l := ys)]
      constructor
      · rintro (h | h | h)
        · exact .inr (.inl h)
        · exact .inl h
        · exact .inr (.inr h)
      · rintro (h | h | h)
        · exact .inr (.inl h)
        · exact .inl h
        · exact .inr (.inr h)
theorem mem_isort_ {α : Type} {le : α → α → Bool} {z : α} : ∀ {l : List α}, z ∈ isort le l ↔ z ∈ l
  | [] => by simp [isort]
  | x :: xs => by
    unfold isort
    rw [mem_ins, mem_isort_ (l := xs), List.mem_cons]
theorem mem_sortX {x : X} {xs : List X} : x ∈ sortX enc xs ↔ x ∈ xs := mem_isort_
theorem sortOk_enc (h : IsEnc enc t) (hs : (∀ x, isTup (enc x) = true) ∨ ∀ x, isTup (enc x) = false) (xs : List X) : sortOk (xs.map enc) = true := by
  have dp := h.dep
  unfold sortOk
  simp only [Bool.and_eq_true, Bool.or_eq_true, List.all_eq_true, List.mem_map, decide_eq_true_eq]
  refine ⟨⟨?_, ?_⟩, ?_⟩
  · rintro d ⟨x, _, rfl⟩ e ⟨y, _, rfl⟩
    exact has_alike _ _ _ (h.has x) (h.has y)
  · rcases hs with hs | hs
    · left
      rintro d ⟨x, _, rfl⟩
      exact hs x
    · right
      rintro d ⟨x, _, rfl⟩
      rw [hs x, has_no (h.has x)]
      exact ⟨rfl, rfl⟩
  · rintro d ⟨x, _, rfl⟩
    have := has_lay _ _ (h.has x)
    exact ⟨by omega, this.1⟩
theorem sorted_enc (h : IsEnc enc t) (hs : (∀ x, isTup (enc x) = true) ∨ ∀ x, isTup (enc x) = false) (xs : List X) : sortedD (.list (xs.map enc)) = some ((sortX enc xs).map enc) := by
  unfold sortedD
  simp only [sortOk_enc h hs, if_true, sortD_enc]
/-- strictly less -/
def ltX (enc : X → PyData) (x y : X) : Prop := dataLt (enc x) (enc y) = true
theorem lt_irrefl (d : PyData) : dataLt d d = false := PyProof.Rows.lex_irrefl _
theorem lt_trans {a b c : PyData} (h : dataLt a b = true) (k : dataLt b c = true) : dataLt a c = true := PyProof.Rows.lex_trans _ _ _ h k
theorem lt_asymm {a b : PyData} (h : dataLt a b = true) : dataLt b a = false := by
  cases k : dataLt b a with
  | false => rfl
  | true => rw [lt_trans h k |>.symm.trans (lt_irrefl a)]
theorem ins_first {x : X} {xs : List X} (h : ∀ y ∈ xs, ltX enc x y) : ins (fun x y => leD (enc x) (enc y)) x xs = x :: xs := by
  cases xs with
  | nil => rfl
  | cons y ys =>
    unfold ins
    rw [if_pos]
    unfold leD
    rw [lt_asymm (h y (by simp))]
    rfl
/-- what ascends is sorted already -/
theorem sortX_up : ∀ {xs : List X}, xs.Pairwise (ltX enc) → sortX enc xs = xs
  | [], _ => rfl
  | x :: xs, h => by
    obtain ⟨h1, h2⟩ := List.pairwise_cons.mp h
    show ins _ x (sortX enc xs) = _
    rw [sortX_up h2, ins_first h1]
theorem total_enc (h : IsEnc enc t) {x y : X} (ne : x ≠ y) : ltX enc x y ∨ ltX enc y x := by
  refine lt_total (has_alike _ _ _ (h.has x) (h.has y)) ?_
  cases k : PyData.eqv (enc x) (enc y) with
  | false => rfl
  | true => exact absurd (h.inj _ _ ((has_eqv_iff (h.has x) (h.has y)).mp k)) ne
theorem ins_asc (h : IsEnc enc t) {x : X} : ∀ {xs : List X}, x ∉ xs → xs.Pairwise (ltX enc) → (ins (fun x y => leD (enc x) (enc y)) x xs).Pairwise (ltX enc)
  | [], _, _ => List.pairwise_singleton _ _
  | y :: ys, hx, hp => by
    obtain ⟨h1, h2⟩ := List.pairwise_cons.mp hp
    unfold ins
    split
    · rename_i hl
      have hxy : ltX enc x y := by
        rcases total_enc h (x := x) (y := y) (fun z => hx (by simp [z])) with k | k
        · exact k
        · unfold leD at hl
          rw [k] at hl
          cases hl
      refine List.pairwise_cons.mpr ⟨fun z hz => ?_, hp⟩
      rcases List.mem_cons.mp hz with rfl | hz
      · exact hxy
      · exact lt_trans hxy (h1 z hz)
    · rename_i hl
      have hyx : ltX enc y x := by
        unfold leD at hl
        show dataLt (enc y) (enc x) = true
        simpa using hl
      refine List.pairwise_cons.mpr ⟨fun z hz => ?_, ins_asc h (fun z => hx (by simp [z])) h2⟩
      rcases mem_ins.mp hz with rfl | hz
      · exact hyx
      · exact h1 z hz
theorem sortX_asc (h : IsEnc enc t) : ∀ {xs : List X}, xs.Nodup → (sortX enc xs).Pairwise (ltX enc)
  | [], _ => .nil
  | x :: xs, hn => by
    obtain ⟨h1, h2⟩ := List.nodup_cons.mp hn
    exact ins_asc h (fun z => h1 (mem_sortX.mp z)) (sortX_asc h h2)
/-- ascending lists of the same members are one -/
theorem asc_ext : ∀ {xs ys : List X}, xs.Pairwise (ltX enc) → ys.Pairwise (ltX enc) → (∀ x, x ∈ xs ↔ x ∈ ys) → xs = ys
  | [], [], _, _, _ => rfl
  | [], y :: ys, _, _, h => by
    have := (h y).mpr (by simp)
    cases this
  | x :: xs, [], _, _, h => by
    have := (h x).mp (by simp)
    cases this
  | x :: xs, y :: ys, hx, hy, h => by
    obtain ⟨a1, a2⟩ := List.pairwise_cons.mp hx
    obtain ⟨b1, b2⟩ := List.pairwise_cons.mp hy
    have nn : ∀ z : X, ¬ ltX enc z z := fun z k => by
      unfold ltX at k
      rw [lt_irrefl] at k
      cases k
    have e : x = y := by
      rcases List.mem_cons.mp ((h x).mp (by simp)) with e | m
      · exact e
      · rcases List.mem_cons.mp ((h y).mpr (by simp)) with e | m2
        · exact e.symm
        · exact absurd (lt_trans (a1 y m2) (b1 x m)) (nn x)
    subst e
    congr 1
    refine asc_ext a2 b2 fun z => ⟨fun m => ?_, fun m => ?_⟩
    · rcases List.mem_cons.mp ((h z).mp (by simp [m])) with e | k
      · subst e
        exact absurd (a1 _ m) (nn _)
      · exact k
    · rcases List.mem_cons.mp ((h z).mpr (by simp [m])) with e | k
      · subst e
        exact absurd (b1 _ m) (nn _)
      · exact k
theorem asc_nodup {xs : List X} (h : xs.Pairwise (ltX enc)) : xs.Nodup := h.imp fun k e => by
  subst e
  unfold ltX at k
  rw [lt_irrefl] at k
  cases k
end
/-! sets -/
mutual
def keyT : Ty → Bool
  | .str => true
  | .bool => true
  | .int => true
  | .seq b t => b && keyT t
  | .row b ts => b && keyTs ts
def keyTs : List Ty → Bool
  | [] => true
  | t :: ts => keyT t && keyTs ts
end
mutual
theorem has_keyed : ∀ (d : PyData) (t : Ty), hasT d t = true → keyT t = true → keyed d = true
  | .str _, _, _, _ => rfl
  | .bool _, _, _, _ => rfl
  | .int _, _, _, _ => rfl
  | .none, _, _, _ => rfl
  | .dict _, t, h1, _ => by cases t <;> simp_all [hasT]
  | .list ds, t, h1, k => by
    cases t with
    | seq b t => cases b <;> simp [hasT, keyT] at h1 k
    | row b t => cases b <;> simp [hasT, keyT] at h1 k
    | _ => simp [hasT] at h1
  | .tuple ds, t, h1, k => by
    cases t with
    | seq b t =>
      cases b <;> simp [hasT] at h1
      simp [keyT] at k
      simpa [keyed] using has_keyedA ds t h1 k
    | row b ts =>
      cases b <;> simp [hasT] at h1
      simp [keyT] at k
      simpa [keyed] using has_keyedR ds ts h1 k
    | _ => simp [hasT] at h1
theorem has_keyedA : ∀ (ds : List PyData) (t : Ty), hasA ds t = true → keyT t = true → keyeds ds = true
  | [], _, _, _ => by simp [keyeds]
  | d :: ds, t, h1, k => by
    simp only [hasA, Bool.and_eq_true] at h1
    simp [keyeds, has_keyed d t h1.1 k, has_keyedA ds t h1.2 k]
theorem has_keyedR : ∀ (ds : List PyData) (ts : List Ty), hasR ds ts = true → keyTs ts = true → keyeds ds = true
  | [], _, _, _ => by simp [keyeds]
  | d :: ds, [], h1, _ => by simp [hasR] at h1
  | d :: ds, t :: ts, h1, k => by
    simp only [hasR, Bool.and_eq_true] at h1
    simp only [keyTs, Bool.and_eq_true] at k
    simp [keyeds, has_keyed d t h1.1 k.1, has_keyedR ds ts h1.2 k.2]
end
mutual
theorem has_kd : ∀ (d e : PyData) (t : Ty), hasT d t = true → hasT e t = true → keyT t = true → kd d = kd e → d = e
  | .str _, e, t, h1, h2, _, h => by cases t <;> cases e <;> simp_all [hasT, kd]
  | .bool x, e, t, h1, h2, _, h => by
    cases t <;> cases e <;> simp_all [hasT, kd]
    rename_i y
    cases x <;> cases y <;> simp_all
  | .int _, e, t, h1, h2, _, h => by cases t <;> cases e <;> simp_all [hasT, kd]
  | .none, e, t, h1, _, _, _ => by cases t <;> simp_all [hasT]
  | .dict _, e, t, h1, _, _, _ => by cases t <;> simp_all [hasT]
  | .list ds, e, t, h1, _, k, _ => by
    cases t with
    | seq b t => cases b <;> simp [hasT, keyT] at h1 k
    | row b t => cases b <;> simp [hasT, keyT] at h1 k
    | _ => simp [hasT] at h1
  | .tuple ds, e, t, h1, h2, k, h => by
    cases t with
    | seq b t =>
      cases b <;> cases e <;> simp [hasT] at h1 h2
      simp [keyT] at k
      simp only [kd, NestedKey.tup.injEq] at h
      rw [has_kdA ds _ t h1 h2 k h]
    | row b ts =>
      cases b <;> cases e <;> simp [hasT] at h1 h2
      simp [keyT] at k
      simp only [kd, NestedKey.tup.injEq] at h
      rw [has_kdR ds _ ts h1 h2 k h]
    | _ => simp [hasT] at h1
theorem has_kdA : ∀ (ds es : List PyData) (t : Ty), hasA ds t = true → hasA es t = true → keyT t = true → kds ds = kds es → ds = es
  | [], [], _, _, _, _, _ => rfl
  | [], _ :: _, _, _, _, _, h => by simp [kds] at h
  | _ :: _, [], _, _, _, _, h => by simp [kds] at h
  | d :: ds, e :: es, t, h1, h2, k, h => by
    simp only [hasA, Bool.and_eq_true] at h1 h2
    simp only [kds, List.cons.injEq] at h
    rw [has_kd d e t h1.1 h2.1 k h.1, has_kdA ds es t h1.2 h2.2 k h.2]
theorem has_kdR : ∀ (ds es : List PyData) (ts : List Ty), hasR ds ts = true → hasR es ts = true → keyTs ts = true → kds ds = kds es → ds = es
  | [], [], _, _, _, _, _ => rfl
  | [], _ :: _, _, _, _, _, h => by simp [kds] at h
  | _ :: _, [], _, _, _, _, h => by simp [kds] at h
  | d :: ds, e :: es, [], h1, _, _, _ => by simp [hasR] at h1
  | d :: ds, e :: es, t :: ts, h1, h2, k, h => by
    simp only [hasR, Bool.and_eq_true] at h1 h2
    simp only [kds, List.cons.injEq] at h
    simp only [keyTs, Bool.and_eq_true] at k
    rw [has_kd d e t h1.1 h2.1 k.1 h.1, has_kdR ds es ts h1.2 h2.2 k.2 h.2]
end
mutual
theorem same_refl : ∀ (d : PyData) (t : Ty), hasT d t = true → same d d = true
  | .str _, _, _ => by simp [same]
  | .bool _, _, _ => by simp [same]
  | .int _, _, _ => by simp [same]
  | .none, _, _ => by simp [same]
  | .dict _, t, h => by cases t <;> simp_all [hasT]
  | .tuple ds, t, h1 => by
    cases t with
    | seq b t =>
      cases b <;> simp [hasT] at h1
      simpa [same] using sames_reflA ds t h1
    | row b ts =>
      cases b <;> simp [hasT] at h1
      simpa [same] using sames_reflR ds ts h1
    | _ => simp [hasT] at h1
  | .list ds, t, h1 => by
    cases t with
    | seq b t =>
      cases b <;> simp [hasT] at h1
      simpa [same] using sames_reflA ds t h1
    | row b ts =>
      cases b <;> simp [hasT] at h1
      simpa [same] using sames_reflR ds ts h1
    | _ => simp [hasT] at h1
theorem sames_reflA : ∀ (ds : List PyData) (t : Ty), hasA ds t = true → sames ds ds = true
  | [], _, _ => by simp [sames]
  | d :: ds, t, h1 => by
    simp only [hasA, Bool.and_eq_true] at h1
    simp [sames, same_refl d t h1.1, sames_reflA ds t h1.2]
theorem sames_reflR : ∀ (ds : List PyData) (ts : List Ty), hasR ds ts = true → sames ds ds = true
  | [], _, _ => by simp [sames]
  | d :: ds, [], h1 => by simp [hasR] at h1
  | d :: ds, t :: ts, h1 => by
    simp only [hasR, Bool.and_eq_true] at h1
    simp [sames, same_refl d t h1.1, sames_reflR ds ts h1.2]
end
mutual
theorem kd_dep : ∀ (d : PyData) (t : Ty), hasT d t = true → keyT t = true → (kd d).depth ≤ t.dep
  | .str _, _, _, _ => by simp [kd, NestedKey.depth]
  | .bool _, _, _, _ => by simp [kd, NestedKey.depth]
  | .int _, _, _, _ => by simp [kd, NestedKey.depth]
  | .none, _, _, _ => by simp [kd, NestedKey.depth]
  | .dict _, _, _, _ => by simp [kd, NestedKey.depth]
  | .list ds, _, _, _ => by simp [kd, NestedKey.depth]
  | .tuple ds, t, h1, k => by
    cases t with
    | seq b t =>
      cases b <;> simp [hasT] at h1
      simp [keyT] at k
      have := kds_depA ds t h1 k
      simp only [kd, NestedKey.depth, Ty.dep]
      omega
    | row b ts =>
      cases b <;> simp [hasT] at h1
      simp [keyT] at k
      have := kds_depR ds ts h1 k
      simp only [kd, NestedKey.depth, Ty.dep]
      omega
    | _ => simp [hasT] at h1
theorem kds_depA : ∀ (ds : List PyData) (t : Ty), hasA ds t = true → keyT t = true → NestedKey.depthAll (kds ds) ≤ t.dep
  | [], _, _, _ => by simp [kds, NestedKey.depthAll]
  | d :: ds, t, h1, k => by
    simp only [hasA, Bool.and_eq_true] at h1
    have a := kd_dep d t h1.1 k
    have b := kds_depA ds t h1.2 k
    simp only [kds, NestedKey.depthAll]
    omega
theorem kds_depR : ∀ (ds : List PyData) (ts : List Ty), hasR ds ts = true → keyTs ts = true → NestedKey.depthAll (kds ds) ≤ Ty.depA ts
  | [], _, _, _ => by simp [kds, NestedKey.depthAll]
  | d :: ds, [], h1, _ => by simp [hasR] at h1
  | d :: ds, t :: ts, h1, k => by
    simp only [hasR, Bool.and_eq_true] at h1
    simp only [keyTs, Bool.and_eq_true] at k
    have a := kd_dep d t h1.1 k.1
    have b := kds_depR ds ts h1.2 k.2
    simp only [kds, NestedKey.depthAll, Ty.depA]
    omega
end
section
variable {X : Type} [DecidableEq X] {enc : X → PyData} {t : Ty}
theorem kd_enc (h : IsEnc enc t) (k : keyT t = true) (x y : X) : kd (enc x) = kd (enc y) ↔ x = y :=
  ⟨fun e => h.inj _ _ (has_kd _ _ t (h.has x) (h.has y) k e), fun e => by rw [e]⟩
def nubX : List X → List X
  | [] => []
  | x :: xs => if x ∈ xs then nubX xs else x :: nubX xs
theorem mem_nubX {z : X} : ∀ {xs : List X}, z ∈ nubX xs ↔ z ∈ xs
  | [] => by simp [nubX]
  | x :: xs => by
    unfold nubX
    split
    · rename_i h
      rw [mem_nubX, List.mem_cons]
      exact ⟨.inr, fun k => k.elim (fun e => e ▸ h) id⟩
    · rw [List.mem_cons, mem_nubX, List.mem_cons]
theorem nodup_nubX : ∀ xs : List X, (nubX xs).Nodup
  | [] => .nil
  | x :: xs => by
    unfold nubX
    split
    · exact nodup_nubX xs
    · rename_i h
      exact List.nodup_cons.mpr ⟨fun m => h (mem_nubX.mp m), nodup_nubX xs⟩
theorem nubX_len : ∀ xs : List X, (nubX xs).length ≤ xs.length
  | [] => Nat.le_refl _
  | x :: xs => by
    have := nubX_len xs
    unfold nubX
    split <;> simp <;> omega
theorem nub_enc (h : IsEnc enc t) (k : keyT t = true) : ∀ xs : List X, nub (xs.map enc) = (nubX xs).map enc
  | [] => rfl
  | x :: xs => by
    have e : ((xs.map enc).any fun e => decide (kd e = kd (enc x))) = decide (x ∈ xs) := by
      rw [List.any_map, Bool.eq_iff_iff]
      simp only [Function.comp_def, List.any_eq_true, decide_eq_true_eq, kd_enc h k]
      exact ⟨fun ⟨y, m, e⟩ => e ▸ m, fun m => ⟨x, m, rfl⟩⟩
    rw [List.map_cons]
    unfold nub nubX
    rw [e, nub_enc h k xs]
    by_cases m : x ∈ xs <;> simp [m]
theorem faceOk_enc (h : IsEnc enc t) (k : keyT t = true) (xs : List X) : faceOk (xs.map enc) = true := by
  unfold faceOk
  simp only [List.all_eq_true, List.mem_map, Bool.and_eq_true, Bool.or_eq_true, Bool.not_eq_true', decide_eq_true_eq, decide_eq_false_iff_not]
  rintro d ⟨x, _, rfl⟩ e ⟨y, _, rfl⟩
  rw [kd_enc h k]
  by_cases e : x = y
  · subst e
    exact ⟨.inr (same_refl _ _ (h.has x)), .inr rfl⟩
  · refine ⟨.inl e, .inl ?_⟩
    rcases total_enc h e with l | l
    · have : leD (enc y) (enc x) = false := by
        unfold leD
        rw [show dataLt (enc x) (enc y) = true from l]
        rfl
      rw [this, Bool.and_false]
    · have : leD (enc x) (enc y) = false := by
        unfold leD
        rw [show dataLt (enc y) (enc x) = true from l]
        rfl
      rw [this, Bool.false_and]
/-- the ascending list of the members -/
theorem len_ins_ {α : Type} {le : α → α → Bool} (x : α) : ∀ l : List α, (ins le x l).length = l.length + 1
  | [] => rfl
  | y :: ys => by
    unfold ins
    split
    · rfl
    · simp [len_ins_ x ys]
theorem len_isort_ {α : Type} {le : α → α → Bool} : ∀ l : List α, (isort le l).length = l.length
  | [] => rfl
  | x :: xs => by
    unfold isort
    rw [len_ins_, len_isort_ xs]
    rfl
def setX (enc : X → PyData) (xs : List X) : List X := sortX enc (nubX xs)
theorem mem_setX {x : X} {xs : List X} : x ∈ setX enc xs ↔ x ∈ xs := by
  unfold setX
  rw [mem_sortX, mem_nubX]
theorem setX_asc (h : IsEnc enc t) (xs : List X) : (setX enc xs).Pairwise (ltX enc) := sortX_asc h (nodup_nubX xs)
theorem setX_len (xs : List X) : (setX enc xs).length ≤ xs.length := by
  unfold setX sortX
  rw [len_isort_]
  exact nubX_len xs
theorem sortSet_tup (h : IsEnc enc t) (k : keyT t = true) (hs : ∀ x, isTup (enc x) = true) (hd : t.dep ≤ 8) (b : Bool) (xs : List X) (hl : xs.length < 64) : sortSetD (sq b (xs.map enc)) = some ((setX enc xs).map enc) := by
  have s : setOk (xs.map enc) = true := by
    unfold setOk
    rw [Bool.or_eq_true]
    right
    simp only [Bool.and_eq_true, List.all_eq_true, List.mem_map, decide_eq_true_eq, List.length_map]
    refine ⟨?_, hl⟩
    rintro d ⟨x, _, rfl⟩
    exact ⟨⟨hs x, has_keyed _ _ (h.has x) k⟩, Nat.le_trans (kd_dep _ _ (h.has x) k) hd⟩
  unfold sortSetD
  simp only [items_sq, Option.bind_eq_bind, Option.bind_some, s, sortOk_enc h (.inl hs), faceOk_enc h k, Bool.and_self, if_true]
  unfold sortSet setX
  rw [nub_enc h k, sortD_enc]
theorem sortSet_str (h : IsEnc enc t) (k : keyT t = true) (hs : ∀ x, (skey (enc x)).isSome = true) (hn : ∀ x, isTup (enc x) = false) (b : Bool) (xs : List X) (hl : xs.length < scanBound) : sortSetD (sq b (xs.map enc)) = some ((setX enc xs).map enc) := by
  have s : setOk (xs.map enc) = true := by
    unfold setOk
    rw [Bool.or_eq_true]
    left
    simp only [Bool.and_eq_true, List.all_eq_true, List.mem_map, decide_eq_true_eq, List.length_map]
    refine ⟨?_, hl⟩
    rintro d ⟨x, _, rfl⟩
    exact hs x
  unfold sortSetD
  simp only [items_sq, Option.bind_eq_bind, Option.bind_some, s, sortOk_enc h (.inr hn), faceOk_enc h k, Bool.and_self, if_true]
  unfold sortSet setX
  rw [nub_enc h k, sortD_enc]
end
end L2.Lp

/-! mathematics of plain cuts: spots, conditions, the parting of a land -/
namespace Lnd
universe u
variable {α : Type u} [DecidableEq α]
/-- a spot keeps a condition -/
def keepsT (s : List α) (c : List (α × Bool)) : Bool := c.all fun p => decide (p.1 ∈ s) == p.2
def inT (s : List α) (cut : List (List (α × Bool))) : Bool := cut.any fun c => keepsT s c
theorem keepsT_app (s : List α) (c d : List (α × Bool)) : keepsT s (c ++ d) = (keepsT s c && keepsT s d) := by
  unfold keepsT; rw [List.all_append]
theorem keepsT_one (s : List α) (a : α) (b : Bool) : keepsT s [(a, b)] = (decide (a ∈ s) == b) := by
  simp [keepsT]
/-- the conditions that come of one that names the areas ahead of the ones left -/
def part (ALL land : List (List α)) : List α → List (α × Bool) → List (List (α × Bool))
  | [], c =>
    if (ALL.filter fun s => keepsT s c).filter (fun s => decide (s ∈ land)) = [] then []
    else if (ALL.filter fun s => keepsT s c).filter (fun s => decide (s ∈ land)) = ALL.filter (fun s => keepsT s c) then [c]
    else []
  | a :: r, c =>
    if (ALL.filter fun s => keepsT s c).filter (fun s => decide (s ∈ land)) = [] then []
    else if (ALL.filter fun s => keepsT s c).filter (fun s => decide (s ∈ land)) = ALL.filter (fun s => keepsT s c) then [c]
    else part ALL land r (c ++ [(a, false)]) ++ part ALL land r (c ++ [(a, true)])
theorem part_eq (ALL land : List (List α)) (as : List α) (c : List (α × Bool)) : part ALL land as c =
    if (ALL.filter fun s => keepsT s c).filter (fun s => decide (s ∈ land)) = [] then []
    else if (ALL.filter fun s => keepsT s c).filter (fun s => decide (s ∈ land)) = ALL.filter (fun s => keepsT s c) then [c]
    else match as with
      | [] => []
      | a :: r => part ALL land r (c ++ [(a, false)]) ++ part ALL land r (c ++ [(a, true)]) := by
  cases as <;> rfl
/-- no two spots are told by the areas left and the condition -/
def Told (ALL : List (List α)) (as : List α) (c : List (α × Bool)) : Prop :=
  ∀ s ∈ ALL, ∀ t ∈ ALL, keepsT s c = true → keepsT t c = true → (∀ a ∈ as, (a ∈ s ↔ a ∈ t)) → s = t
theorem Told.next {ALL : List (List α)} {a : α} {r : List α} {c : List (α × Bool)} (h : Told ALL (a :: r) c) (b : Bool) : Told ALL r (c ++ [(a, b)]) := by
  intro s hs t ht ks kt e
  rw [keepsT_app, keepsT_one, Bool.and_eq_true, beq_iff_eq] at ks kt
  refine h s hs t ht ks.1 kt.1 fun x hx => ?_
  rcases List.mem_cons.mp hx with rfl | hx
  · have h1 := ks.2
    have h2 := kt.2
    rw [← h2] at h1
    exact decide_eq_decide.mp h1
  · exact e x hx
/-- at the end of the areas the parting is over -/
theorem end_one {ALL land : List (List α)} {c : List (α × Bool)} (hn : ALL.Nodup) (h : Told ALL [] c)
    (h1 : ¬ (ALL.filter fun s => keepsT s c).filter (fun s => decide (s ∈ land)) = []) :
    (ALL.filter fun s => keepsT s c).filter (fun s => decide (s ∈ land)) = ALL.filter fun s => keepsT s c := by
  have hk : (ALL.filter fun s => keepsT s c).Nodup := hn.sublist List.filter_sublist
  have he : ∀ s ∈ ALL.filter fun s => keepsT s c, ∀ t ∈ ALL.filter fun s => keepsT s c, s = t := fun s hs t ht => by
    rw [List.mem_filter] at hs ht
    exact h s hs.1 t ht.1 hs.2 ht.2 (fun a ha => by cases ha)
  generalize ALL.filter (fun s => keepsT s c) = k at h1 hk he ⊢
  match k, hk, he, h1 with
  | [], _, _, h1 => exact absurd rfl h1
  | [x], _, _, h1 =>
    by_cases hx : x ∈ land
    · simp [hx]
    · simp [hx] at h1
  | x :: y :: l, hk, he, _ =>
    have := he x (by simp) y (by simp)
    rw [this] at hk
    simp at hk
theorem part_in {ALL land : List (List α)} (hn : ALL.Nodup) : ∀ (as : List α) (c : List (α × Bool)), Told ALL as c → ∀ s ∈ ALL, inT s (part ALL land as c) = (keepsT s c && decide (s ∈ land))
  | as, c, ht, s, hs => by
    rw [part_eq]
    split
    · rename_i h1
      by_cases hk : keepsT s c = true
      · have : ¬ s ∈ land := fun hl => by
          have hm : s ∈ (ALL.filter fun s => keepsT s c).filter (fun s => decide (s ∈ land)) := List.mem_filter.mpr ⟨List.mem_filter.mpr ⟨hs, hk⟩, by simpa using hl⟩
          rw [h1] at hm
          cases hm
        simp [inT, this]
      · simp [inT, hk]
    · rename_i h1
      split
      · rename_i h2
        by_cases hk : keepsT s c = true
        · have hm : s ∈ (ALL.filter fun s => keepsT s c) := List.mem_filter.mpr ⟨hs, hk⟩
          rw [← h2, List.mem_filter] at hm
          simp [inT, hk, of_decide_eq_true hm.2]
        · simp [inT, hk]
      · rename_i h2
        match as, ht with
        | [], ht => exact absurd (end_one hn ht h1) h2
        | a :: r, ht =>
          have i1 := part_in (land := land) hn r (c ++ [(a, false)]) (ht.next false) s hs
          have i2 := part_in (land := land) hn r (c ++ [(a, true)]) (ht.next true) s hs
          unfold inT at i1 i2 ⊢
          rw [List.any_append, i1, i2, keepsT_app, keepsT_app, keepsT_one, keepsT_one]
          cases keepsT s c <;> cases decide (a ∈ s) <;> cases decide (s ∈ land) <;> rfl
termination_by as => as.length
/-- all that comes goes on from the condition -/
theorem part_pre {ALL land : List (List α)} (as : List α) : ∀ (c : List (α × Bool)), ∀ d ∈ part ALL land as c, ∃ e, d = c ++ e ∧ ∃ n, e.map (·.1) = as.take n := by
  induction as with
  | nil =>
    intro c d hd
    rw [part_eq] at hd
    split at hd
    · cases hd
    · split at hd
      · simp at hd
        exact ⟨[], by simp [hd], 0, by simp⟩
      · cases hd
  | cons a r ih =>
    intro c d hd
    rw [part_eq] at hd
    split at hd
    · cases hd
    · split at hd
      · simp at hd
        exact ⟨[], by simp [hd], 0, by simp⟩
      · rcases List.mem_append.mp hd with hd | hd
        · obtain ⟨e, he, n, hn⟩ := ih _ d hd
          exact ⟨(a, false) :: e, by simp [he], n + 1, by simp [hn]⟩
        · obtain ⟨e, he, n, hn⟩ := ih _ d hd
          exact ⟨(a, true) :: e, by simp [he], n + 1, by simp [hn]⟩
/-- each has a spot of the land -/
theorem part_here {ALL land : List (List α)} {c d : List (α × Bool)} (h1 : ¬ (ALL.filter fun s => keepsT s c).filter (fun s => decide (s ∈ land)) = []) (hd : d ∈ [c]) : ∃ s ∈ ALL, keepsT s d = true ∧ s ∈ land := by
  simp at hd
  subst hd
  obtain ⟨s, hs⟩ := List.exists_mem_of_ne_nil _ h1
  rw [List.mem_filter, List.mem_filter] at hs
  exact ⟨s, hs.1.1, hs.1.2, of_decide_eq_true hs.2⟩
theorem part_has {ALL land : List (List α)} (as : List α) : ∀ (c : List (α × Bool)), ∀ d ∈ part ALL land as c, ∃ s ∈ ALL, keepsT s d = true ∧ s ∈ land := by
  induction as with
  | nil =>
    intro c d hd
    rw [part_eq] at hd
    split at hd
    · cases hd
    · rename_i h1
      split at hd
      · exact part_here h1 hd
      · cases hd
  | cons a r ih =>
    intro c d hd
    rw [part_eq] at hd
    split at hd
    · cases hd
    · rename_i h1
      split at hd
      · exact part_here h1 hd
      · rcases List.mem_append.mp hd with hd | hd
        · exact ih _ d hd
        · exact ih _ d hd
/-- no spot keeps two of them -/
theorem part_apart {ALL land : List (List α)} : ∀ (as : List α) (c : List (α × Bool)), (part ALL land as c).Pairwise fun d e => ∀ s : List α, keepsT s d = true → keepsT s e = true → False
  | as, c => by
    rw [part_eq]
    split
    · exact .nil
    · split
      · exact List.pairwise_singleton _ _
      · match as with
        | [] => exact .nil
        | a :: r =>
          refine List.pairwise_append.mpr ⟨part_apart r _, part_apart r _, fun d hd e he s k1 k2 => ?_⟩
          obtain ⟨x, hx, _⟩ := part_pre _ _ d hd
          obtain ⟨y, hy, _⟩ := part_pre _ _ e he
          subst hx hy
          rw [keepsT_app, keepsT_app, keepsT_one] at k1 k2
          simp at k1 k2
          exact k1.1.2 k2.1.2
termination_by as => as.length
/-- they ascend, by any order that puts the outside ahead of the inside -/
theorem part_up {ALL land : List (List α)} (lt : List (α × Bool) → List (α × Bool) → Prop) (hlt : ∀ c a x y, lt (c ++ (a, false) :: x) (c ++ (a, true) :: y)) : ∀ (as : List α) (c : List (α × Bool)), (part ALL land as c).Pairwise lt
  | as, c => by
    rw [part_eq]
    split
    · exact .nil
    · split
      · exact List.pairwise_singleton _ _
      · match as with
        | [] => exact .nil
        | a :: r =>
          refine List.pairwise_append.mpr ⟨part_up lt hlt r _, part_up lt hlt r _, fun d hd e he => ?_⟩
          obtain ⟨x, hx, _⟩ := part_pre _ _ d hd
          obtain ⟨y, hy, _⟩ := part_pre _ _ e he
          subst hx hy
          simpa using hlt c a x y
termination_by as => as.length
/-- the land of a cut among the spots -/
def landT (ALL : List (List α)) (cut : List (List (α × Bool))) : List (List α) := ALL.filter fun s => inT s cut
theorem land_part {ALL land : List (List α)} {as : List α} (hn : ALL.Nodup) (ht : Told ALL as []) (hl : land = ALL.filter fun s => decide (s ∈ land)) : landT ALL (part ALL land as []) = land := by
  unfold landT
  have e : ALL.filter (fun s => inT s (part ALL land as [])) = ALL.filter fun s => decide (s ∈ land) :=
    List.filter_congr fun s hs => by rw [part_in hn as [] ht s hs]; simp [keepsT]
  rw [e, ← hl]
/-- none of them can go -/
theorem land_less {ALL land : List (List α)} {as : List α} {l m : List (List (α × Bool))} {c : List (α × Bool)} (e : part ALL land as [] = l ++ c :: m) : landT ALL (l ++ m) ≠ land := by
  intro h
  obtain ⟨s, hs, hk, hl⟩ := part_has as [] c (by rw [e]; simp)
  rw [← h] at hl
  unfold landT at hl
  rw [List.mem_filter] at hl
  have hp := part_apart (ALL := ALL) (land := land) as []
  rw [e] at hp
  obtain ⟨_, h2, h3⟩ := List.pairwise_append.mp hp
  obtain ⟨h4, _⟩ := List.pairwise_cons.mp h2
  have hi := hl.2
  unfold inT at hi
  rw [List.any_append, Bool.or_eq_true, List.any_eq_true, List.any_eq_true] at hi
  rcases hi with ⟨d, hd, kd⟩ | ⟨d, hd, kd⟩
  · exact h3 d hd c (by simp) s kd hk
  · exact h4 d hd s hk kd
end Lnd

set_option Elab.async false
set_option linter.all false
set_option maxRecDepth 100000
set_option maxHeartbeats 4000000
namespace K03
open PySem PySem.Spec L2 L2.Lp
def top (i : Nat) : Stmt := PySem.Challenge.pw_landpoints_k03_plain_cuts.main.body.getD i (.Pass ⟨0, 0, 0, 0⟩)
abbrev FnP (K : PySem.W.Frag) (x : Str) (st : Stmt) (f : Addr) (fd : FuncData) : Prop := FunD K x x (defArgs st) (defBody st) (defScope st) [] [] f fd
abbrev s__law_cells : Stmt := top 20
abbrev N__law_cells : List Str := ["_law_script", "_law_top_so", "_law_cells_so", "_law_k", "_law_cell", "_law_at_so"]
theorem sc__law_cells : FnScope N__law_cells ["_law_script", "_law_top_so"] (defScope s__law_cells) := ⟨rfl, rfl, rfl, by decide +kernel, rfl, by decide +kernel, by decide +kernel⟩
abbrev s_keeps : Stmt := top 8
abbrev N_keeps : List Str := ["spot", "condition", "name", "inside"]
theorem sc_keeps : FnScope N_keeps ["spot", "condition"] (defScope s_keeps) := ⟨rfl, rfl, rfl, by decide +kernel, rfl, by decide +kernel, by decide +kernel⟩
abbrev s_plain_parts : Stmt := top 16
abbrev N_plain_parts : List Str := ["areas", "let", "land", "condition", "kept", "inner", "name", "outside", "spot"]
theorem sc_plain_parts : FnScope N_plain_parts ["areas", "let", "land", "condition"] (defScope s_plain_parts) := ⟨rfl, rfl, rfl, by decide +kernel, rfl, by decide +kernel, by decide +kernel⟩
abbrev s_all_parts : Stmt := top 2
abbrev N_all_parts : List Str := ["members", "parts", "member", "part"]
theorem sc_all_parts : FnScope N_all_parts ["members"] (defScope s_all_parts) := ⟨rfl, rfl, rfl, by decide +kernel, rfl, by decide +kernel, by decide +kernel⟩
abbrev s_spots_of : Stmt := top 7
abbrev N_spots_of : List Str := ["areas"]
theorem sc_spots_of : FnScope N_spots_of ["areas"] (defScope s_spots_of) := ⟨rfl, rfl, rfl, by decide +kernel, rfl, by decide +kernel, by decide +kernel⟩
abbrev s_is_in : Stmt := top 9
abbrev N_is_in : List Str := ["spot", "cut", "condition"]
theorem sc_is_in : FnScope N_is_in ["spot", "cut"] (defScope s_is_in) := ⟨rfl, rfl, rfl, by decide +kernel, rfl, by decide +kernel, by decide +kernel⟩
abbrev s_let_spots : Stmt := top 10
abbrev N_let_spots : List Str := ["chart", "areas", "bare", "spot"]
theorem sc_let_spots : FnScope N_let_spots ["chart"] (defScope s_let_spots) := ⟨rfl, rfl, rfl, by decide +kernel, rfl, by decide +kernel, by decide +kernel⟩
abbrev s_as_tuples : Stmt := top 1
abbrev N_as_tuples : List Str := ["value", "part"]
theorem sc_as_tuples : FnScope N_as_tuples ["value"] (defScope s_as_tuples) := ⟨rfl, rfl, rfl, by decide +kernel, rfl, by decide +kernel, by decide +kernel⟩
abbrev s_plain_cut : Stmt := top 12
abbrev N_plain_cut : List Str := ["chart", "land"]
theorem sc_plain_cut : FnScope N_plain_cut ["chart", "land"] (defScope s_plain_cut) := ⟨rfl, rfl, rfl, by decide +kernel, rfl, by decide +kernel, by decide +kernel⟩
abbrev s__law_same : Stmt := top 21
abbrev N__law_same : List Str := ["_law_got", "_law_due", "_law_mine", "_law_its"]
theorem sc__law_same : FnScope N__law_same ["_law_got", "_law_due"] (defScope s__law_same) := ⟨rfl, rfl, rfl, by decide +kernel, rfl, by decide +kernel, by decide +kernel⟩
abbrev s__law_three : Stmt := top 31
abbrev N__law_three : List Str := []
theorem sc__law_three : FnScope N__law_three [] (defScope s__law_three) := ⟨rfl, rfl, rfl, by decide +kernel, rfl, by decide +kernel, by decide +kernel⟩
abbrev s__law_spots : Stmt := top 24
abbrev N__law_spots : List Str := ["_law_areas_so", "_law_found", "_law_tag", "_law_own"]
theorem sc__law_spots : FnScope N__law_spots ["_law_areas_so"] (defScope s__law_spots) := ⟨rfl, rfl, rfl, by decide +kernel, rfl, by decide +kernel, by decide +kernel⟩
abbrev s_land_of : Stmt := top 11
abbrev N_land_of : List Str := ["chart", "cut", "spot"]
theorem sc_land_of : FnScope N_land_of ["chart", "cut"] (defScope s_land_of) := ⟨rfl, rfl, rfl, by decide +kernel, rfl, by decide +kernel, by decide +kernel⟩
abbrev s__law_lists : Stmt := top 22
abbrev N__law_lists : List Str := ["_law_matter_so", "_law_bit"]
theorem sc__law_lists : FnScope N__law_lists ["_law_matter_so"] (defScope s__law_lists) := ⟨rfl, rfl, rfl, by decide +kernel, rfl, by decide +kernel, by decide +kernel⟩
abbrev s__law_by_hand_right : Stmt := top 34
abbrev N__law_by_hand_right : List Str := ["_law_lands_so", "_law_got", "_law_due", "_law_five_so", "_law_rest_so", "_law_told", "_law_chart_so", "_law_free_so", "_law_own"]
theorem sc__law_by_hand_right : FnScope N__law_by_hand_right [] (defScope s__law_by_hand_right) := ⟨rfl, rfl, rfl, by decide +kernel, rfl, by decide +kernel, by decide +kernel⟩
abbrev s__law_take : Stmt := top 19
abbrev N__law_take : List Str := ["_law_box_here", "_law_below_so", "_law_once", "_law_far", "_law_twice", "_law_drawn"]
theorem sc__law_take : FnScope N__law_take ["_law_box_here", "_law_below_so"] (defScope s__law_take) := ⟨rfl, rfl, rfl, by decide +kernel, rfl, by decide +kernel, by decide +kernel⟩
abbrev s__law_clause : Stmt := top 28
abbrev N__law_clause : List Str := ["_law_box_here", "_law_areas_so", "_law_ways_so", "_law_tag", "_law_way_so"]
theorem sc__law_clause : FnScope N__law_clause ["_law_box_here", "_law_areas_so"] (defScope s__law_clause) := ⟨rfl, rfl, rfl, by decide +kernel, rfl, by decide +kernel, by decide +kernel⟩
abbrev s__law_of : Stmt := top 23
abbrev N__law_of : List Str := ["_law_box_here", "_law_pool_so"]
theorem sc__law_of : FnScope N__law_of ["_law_box_here", "_law_pool_so"] (defScope s__law_of) := ⟨rfl, rfl, rfl, by decide +kernel, rfl, by decide +kernel, by decide +kernel⟩
abbrev s__law_chart : Stmt := top 30
abbrev N__law_chart : List Str := ["_law_box_here", "_law_many_so", "_law_areas_so", "_law_bare_so", "_law_turn", "_law_own"]
theorem sc__law_chart : FnScope N__law_chart ["_law_box_here", "_law_many_so"] (defScope s__law_chart) := ⟨rfl, rfl, rfl, by decide +kernel, rfl, by decide +kernel, by decide +kernel⟩
abbrev s__law_in : Stmt := top 25
abbrev N__law_in : List Str := ["_law_spot_so", "_law_cut_so", "_law_own", "_law_tag", "_law_side_so"]
theorem sc__law_in : FnScope N__law_in ["_law_spot_so", "_law_cut_so"] (defScope s__law_in) := ⟨rfl, rfl, rfl, by decide +kernel, rfl, by decide +kernel, by decide +kernel⟩
abbrev s__law_let : Stmt := top 26
abbrev N__law_let : List Str := ["_law_chart_so", "_law_own"]
theorem sc__law_let : FnScope N__law_let ["_law_chart_so"] (defScope s__law_let) := ⟨rfl, rfl, rfl, by decide +kernel, rfl, by decide +kernel, by decide +kernel⟩
abbrev s__law_land : Stmt := top 27
abbrev N__law_land : List Str := ["_law_chart_so", "_law_cut_so", "_law_own"]
theorem sc__law_land : FnScope N__law_land ["_law_chart_so", "_law_cut_so"] (defScope s__law_land) := ⟨rfl, rfl, rfl, by decide +kernel, rfl, by decide +kernel, by decide +kernel⟩
abbrev s__law_parted : Stmt := top 32
abbrev N__law_parted : List Str := ["_law_areas_so", "_law_spots_so", "_law_land_so", "_law_clause_so", "_law_mine", "_law_found", "_law_side_so", "_law_later", "_law_own"]
theorem sc__law_parted : FnScope N__law_parted ["_law_areas_so", "_law_spots_so", "_law_land_so", "_law_clause_so"] (defScope s__law_parted) := ⟨rfl, rfl, rfl, by decide +kernel, rfl, by decide +kernel, by decide +kernel⟩
abbrev s_lookup : Stmt := top 13
abbrev N_lookup : List Str := ["areas", "name"]
theorem sc_lookup : FnScope N_lookup ["areas"] (defScope s_lookup) := ⟨rfl, rfl, rfl, by decide +kernel, rfl, by decide +kernel, by decide +kernel⟩
abbrev s_is_ascending : Stmt := top 4
abbrev N_is_ascending : List Str := ["row", "at"]
theorem sc_is_ascending : FnScope N_is_ascending ["row"] (defScope s_is_ascending) := ⟨rfl, rfl, rfl, by decide +kernel, rfl, by decide +kernel, by decide +kernel⟩
abbrev s_is_row : Stmt := top 3
abbrev N_is_row : List Str := ["thing", "many"]
theorem sc_is_row : FnScope N_is_row ["thing", "many"] (defScope s_is_row) := ⟨rfl, rfl, rfl, by decide +kernel, rfl, by decide +kernel, by decide +kernel⟩
abbrev s_is_side : Stmt := top 15
abbrev N_is_side : List Str := ["known", "thing", "name", "inside"]
theorem sc_is_side : FnScope N_is_side ["known", "thing"] (defScope s_is_side) := ⟨rfl, rfl, rfl, by decide +kernel, rfl, by decide +kernel, by decide +kernel⟩
abbrev s_is_condition_over : Stmt := top 14
abbrev N_is_condition_over : List Str := ["known", "thing", "pair"]
theorem sc_is_condition_over : FnScope N_is_condition_over ["known", "thing"] (defScope s_is_condition_over) := ⟨rfl, rfl, rfl, by decide +kernel, rfl, by decide +kernel, by decide +kernel⟩
abbrev s_is_cut : Stmt := top 6
abbrev N_is_cut : List Str := ["areas", "thing", "known", "condition"]
theorem sc_is_cut : FnScope N_is_cut ["areas", "thing"] (defScope s_is_cut) := ⟨rfl, rfl, rfl, by decide +kernel, rfl, by decide +kernel, by decide +kernel⟩
abbrev s__law_case_right : Stmt := top 33
abbrev N__law_case_right : List Str := ["_law_chart_so", "_law_land_so", "_law_due", "_law_got", "_law_k"]
theorem sc__law_case_right : FnScope N__law_case_right ["_law_chart_so", "_law_land_so"] (defScope s__law_case_right) := ⟨rfl, rfl, rfl, by decide +kernel, rfl, by decide +kernel, by decide +kernel⟩
abbrev s__law_cut : Stmt := top 29
abbrev N__law_cut : List Str := ["_law_box_here", "_law_areas_so", "_law_most_so", "_law_turn"]
theorem sc__law_cut : FnScope N__law_cut ["_law_box_here", "_law_areas_so", "_law_most_so"] (defScope s__law_cut) := ⟨rfl, rfl, rfl, by decide +kernel, rfl, by decide +kernel, by decide +kernel⟩
abbrev s__law_right : Stmt := top 35
abbrev N__law_right : List Str := ["_law_box_here", "_law_turn", "_law_chart_so", "_law_land_so", "_law_same_here", "_law_told", "_law_near", "_law_far", "_law_own"]
theorem sc__law_right : FnScope N__law_right ["_law_box_here"] (defScope s__law_right) := ⟨rfl, rfl, rfl, by decide +kernel, rfl, by decide +kernel, by decide +kernel⟩
abbrev s__law_box : Stmt := top 18
abbrev N__law_box : List Str := ["_law_script", "_law_k", "_law_cell"]
theorem sc__law_box : FnScope N__law_box ["_law_script", "_law_k"] (defScope s__law_box) := ⟨rfl, rfl, rfl, by decide +kernel, rfl, by decide +kernel, by decide +kernel⟩
abbrev s_law : Stmt := top 36
abbrev N_law : List Str := ["_law_script", "_law_cells_so", "_law_k"]
theorem sc_law : FnScope N_law ["_law_script"] (defScope s_law) := ⟨rfl, rfl, rfl, by decide +kernel, rfl, by decide +kernel, by decide +kernel⟩
/-! ### the defs as functions of data -/
def f__law_cells : Ss := (fThen (fOwn 2 (fOrF (fCallF (g1L items) [(fSl (fVar 0) oNone (oSome (fVar 1)))]) (fDisp [(fC (.int 0))])))
  (fThen (fFor (fEnum [(fSl (fVar 0) (oSome (fVar 1)) (oSome (fC (.int 63))))]) (gTupF 2 (gsCons (gSh 3) (gsCons (gSh 4) gsNil))) (fThen (fAsg 5 (fOp gMod (fCall (g1 intD) [(fVar 3)]) (fVar 1)))
  (fPut 2 (fVar 5) (fOp gPlus (fOp gIx (fVar 2) (fVar 5)) (fOp gMul (fVar 4) (fOp gPlus (fVar 3) (fC (.int 2))))))))
  (fRet (fVar 2))))
def F__law_cells : Fn := runD [false, false] 6 f__law_cells
def f_keeps : Ss := (fRet (fCall (g1 allD) [(fL (fLc (List.map (·.2) ([("name", 2), ("inside", 3)] : List (Str × Nat))) (fWalk (fVar 1)) (gTupF 2 (gsCons (gSh 2) (gsCons (gSh 3) gsNil))) fYes (fOp gEq (fOp (gInB false) (fVar 2) (fVar 0)) (fVar 3))))]))
def F_keeps : Fn := runD [false, false] 4 f_keeps
def f_plain_parts (Fr : Fn) : Ss := (fThen (fAsg 4 (fL (fLc (List.map (·.2) ([("spot", 8)] : List (Str × Nat))) (fWalk (fVar 1)) (gSh 8) (fT (fCallD [false, false] F_keeps [(fVar 8), (fVar 3)])) (fVar 8))))
  (fThen (fAsg 5 (fL (fLc (List.map (·.2) ([("spot", 8)] : List (Str × Nat))) (fWalk (fVar 4)) (gSh 8) (fB (fOp (gInB false) (fVar 8) (fVar 2))) (fVar 8))))
  (fThen (fIfS (fNot (fT (fVar 5))) (fRet (fLst [])) fNil)
  (fThen (fIfS (fB (fOp gEq (fCall (g1 lenD) [(fVar 5)]) (fCall (g1 lenD) [(fVar 4)]))) (fRet (fLst [(fVar 3)])) fNil)
  (fThen (fAsg 6 (fOp gIx (fVar 0) (fCall (g1 lenD) [(fVar 3)])))
  (fThen (fAsg 7 (fCallD [false, false, false, false] Fr [(fVar 0), (fVar 1), (fVar 2), (fOp gPlus (fVar 3) (fTup [(fTup [(fVar 6), (fC (.bool false))])]))]))
  (fRet (fOp gPlus (fVar 7) (fCallD [false, false, false, false] Fr [(fVar 0), (fVar 1), (fVar 2), (fOp gPlus (fVar 3) (fTup [(fTup [(fVar 6), (fC (.bool true))])]))])))))))))
def F_plain_parts : Nat → Fn
  | 0 => fun _ => none
  | n + 1 => runD [false, false, false, false] 9 (f_plain_parts (F_plain_parts n))
def f_all_parts : Ss := (fThen (fAsg 1 (fLst [(fTup [])]))
  (fThen (fFor (fWalk (fVar 0)) (gSh 2) (fAsg 1 (fOp gPlus (fVar 1) (fL (fLc (List.map (·.2) ([("part", 3)] : List (Str × Nat))) (fWalk (fVar 1)) (gSh 3) fYes (fOp gPlus (fVar 3) (fTup [(fVar 2)])))))))
  (fRet (fCall (g1 tupD) [(fL (fCallF (g1L sortedD) [(fVar 1)]))]))))
def F_all_parts : Fn := runD [false] 4 f_all_parts
def f_spots_of : Ss := (fRet (fCallD [false] F_all_parts [(fVar 0)]))
def F_spots_of : Fn := runD [false] 1 f_spots_of
def f_is_in : Ss := (fRet (fCall (g1 anyD) [(fL (fLc (List.map (·.2) ([("condition", 2)] : List (Str × Nat))) (fWalk (fVar 1)) (gSh 2) fYes (fCallD [false, false] F_keeps [(fVar 0), (fVar 2)])))]))
def F_is_in : Fn := runD [false, false] 3 f_is_in
def f_let_spots : Ss := (fThen (fAsgT (gTupF 2 (gsCons (gSh 1) (gsCons (gSh 2) gsNil))) (fVar 0))
  (fRet (fCall (g1 tupD) [(fL (fLc (List.map (·.2) ([("spot", 3)] : List (Str × Nat))) (fWalk (fCallD [false] F_spots_of [(fVar 1)])) (gSh 3) (fNot (fT (fCallD [false, false] F_is_in [(fVar 3), (fVar 2)]))) (fVar 3)))])))
def F_let_spots : Fn := runD [false] 4 f_let_spots
def f_as_tuples (Fr : Fn) : Ss := (fThen (fIfS (fT (fIsi ["list", "tuple"] (fVar 0))) (fRet (fCall (g1 tupD) [(fL (fLc (List.map (·.2) ([("part", 1)] : List (Str × Nat))) (fWalk (fVar 0)) (gSh 1) fYes (fCallD [false] Fr [(fVar 1)])))])) fNil)
  (fRet (fVar 0)))
def F_as_tuples : Nat → Fn
  | 0 => fun _ => none
  | n + 1 => runD [false] 2 (f_as_tuples (F_as_tuples n))
def f_plain_cut : Ss := (fRet (fCall (g1 tupD) [(fCallD [false, false, false, false] (F_plain_parts 8) [(fOp gIx (fVar 0) (fC (.int 0))), (fCallD [false] F_let_spots [(fVar 0)]), (fCallD [false] (F_as_tuples 8) [(fVar 1)]), (fTup [])])]))
def F_plain_cut : Fn := runD [false, false] 2 f_plain_cut
def f__law_same (Fr : Fn) : Ss := (fThen (fIfS (fT (fIsi ["list", "tuple"] (fVar 1))) (fThen (fIfS (fOr (fB (fOp gNe (fIsi ["list"] (fVar 0)) (fIsi ["list"] (fVar 1)))) (fB (fOp gNe (fIsi ["tuple"] (fVar 0)) (fIsi ["tuple"] (fVar 1))))) (fRet (fC (.bool false))) fNil)
  (fRet (fAndT (fOp gEq (fCall (g1 lenD) [(fVar 0)]) (fCall (g1 lenD) [(fVar 1)])) (fCall (g1 allD) [(fL (fLc (List.map (·.2) ([("_law_mine", 2), ("_law_its", 3)] : List (Str × Nat))) (fZip [(fVar 0), (fVar 1)]) (gTupF 2 (gsCons (gSh 2) (gsCons (gSh 3) gsNil))) fYes (fCallD [false, false] Fr [(fVar 2), (fVar 3)])))])))) fNil)
  (fThen (fIfS (fOr (fB (fOp gIsN (fVar 1) (fC .none))) (fT (fIsi ["bool", "str"] (fVar 1)))) (fRet (fAndT (fOp gEq (fVar 0) (fVar 1)) (fAndT (fOp gEq (fIsi ["bool"] (fVar 0)) (fIsi ["bool"] (fVar 1))) (fOp gEq (fOp gIsN (fVar 0) (fC .none)) (fOp gIsN (fVar 1) (fC .none)))))) fNil)
  (fRet (fAndT (fIsi ["int"] (fVar 0)) (fAndT (fNotT (fIsi ["bool"] (fVar 0))) (fOp gEq (fVar 0) (fVar 1)))))))
def F__law_same : Nat → Fn
  | 0 => fun _ => none
  | n + 1 => runD [false, false] 4 (f__law_same (F__law_same n))
def f__law_three : Ss := (fRet (fTup [(fTup [(fC (.str (Str.ofString "a"))), (fC (.str (Str.ofString "b"))), (fC (.str (Str.ofString "c")))]), (fTup [(fTup [(fTup [(fC (.str (Str.ofString "a"))), (fC (.bool true))]), (fTup [(fC (.str (Str.ofString "b"))), (fC (.bool false))])]), (fTup [(fTup [(fC (.str (Str.ofString "a"))), (fC (.bool true))]), (fTup [(fC (.str (Str.ofString "c"))), (fC (.bool true))])])])]))
def F__law_three : Fn := runD [] 0 f__law_three
def f__law_spots : Ss := (fThen (fAsg 1 (fLst [(fTup [])]))
  (fThen (fFor (fWalk (fVar 0)) (gSh 2) (fAsg 1 (fOp gPlus (fVar 1) (fL (fLc (List.map (·.2) ([("_law_own", 3)] : List (Str × Nat))) (fWalk (fVar 1)) (gSh 3) fYes (fOp gPlus (fVar 3) (fTup [(fVar 2)])))))))
  (fRet (fL (fCallF (g1L sortedD) [(fVar 1)])))))
def F__law_spots : Fn := runD [false] 4 f__law_spots
def f_land_of : Ss := (fRet (fCall (g1 tupD) [(fL (fLc (List.map (·.2) ([("spot", 2)] : List (Str × Nat))) (fWalk (fCallD [false] F_let_spots [(fVar 0)])) (gSh 2) (fT (fCallD [false, false] F_is_in [(fVar 2), (fVar 1)])) (fVar 2)))]))
def F_land_of : Fn := runD [false, false] 3 f_land_of
def f__law_lists (Fr : Fn) : Ss := (fRet (fIf (fT (fIsi ["list", "tuple"] (fVar 0))) (fL (fLc (List.map (·.2) ([("_law_bit", 1)] : List (Str × Nat))) (fWalk (fVar 0)) (gSh 1) fYes (fCallD [false] Fr [(fVar 1)]))) (fVar 0)))
def F__law_lists : Nat → Fn
  | 0 => fun _ => none
  | n + 1 => runD [false] 2 (f__law_lists (F__law_lists n))
def f__law_by_hand_right : Ss := (fThen (fAsgT (gTupF 2 (gsCons (gSh 6) (gsCons (gSh 7) gsNil))) (fTup [(fCallD [] F__law_three []), (fTup [(fTup [(fC (.str (Str.ofString "a"))), (fC (.str (Str.ofString "b")))]), (fTup [])])]))
  (fThen (fAsg 0 (fLst [(fTup []), (fTup [(fTup [(fC (.str (Str.ofString "a"))), (fC (.str (Str.ofString "b")))])]), (fTup [(fTup []), (fTup [(fC (.str (Str.ofString "c")))])]), (fTup [(fTup [(fC (.str (Str.ofString "b")))]), (fTup [(fC (.str (Str.ofString "c")))])]), (fTup [(fTup [(fC (.str (Str.ofString "b"))), (fC (.str (Str.ofString "c")))]), (fTup [(fC (.str (Str.ofString "c")))])])]))
  (fThen (fOwn 1 (fLc (List.map (·.2) ([("_law_own", 8)] : List (Str × Nat))) (fWalk (fVar 0)) (gSh 8) fYes (fCallD [false, false] F_plain_cut [(fVar 6), (fVar 8)])))
  (fThen (fOwn 2 (fDisp [(fTup []), (fTup [(fTup [(fTup [(fC (.str (Str.ofString "a"))), (fC (.bool true))])])]), (fTup [(fTup [(fTup [(fC (.str (Str.ofString "a"))), (fC (.bool false))]), (fTup [(fC (.str (Str.ofString "b"))), (fC (.bool false))])])])]))
  (fThen (fApp 2 (fTup [(fTup [(fTup [(fC (.str (Str.ofString "a"))), (fC (.bool false))]), (fTup [(fC (.str (Str.ofString "b"))), (fC (.bool false))]), (fTup [(fC (.str (Str.ofString "c"))), (fC (.bool true))])]), (fTup [(fTup [(fC (.str (Str.ofString "a"))), (fC (.bool false))]), (fTup [(fC (.str (Str.ofString "b"))), (fC (.bool true))]), (fTup [(fC (.str (Str.ofString "c"))), (fC (.bool false))])])]))
  (fThen (fApp 2 (fTup [(fTup [(fTup [(fC (.str (Str.ofString "a"))), (fC (.bool false))]), (fTup [(fC (.str (Str.ofString "b"))), (fC (.bool false))]), (fTup [(fC (.str (Str.ofString "c"))), (fC (.bool true))])]), (fTup [(fTup [(fC (.str (Str.ofString "a"))), (fC (.bool false))]), (fTup [(fC (.str (Str.ofString "b"))), (fC (.bool true))]), (fTup [(fC (.str (Str.ofString "c"))), (fC (.bool true))])])]))
  (fThen (fApp 1 (fCallD [false, false] F_plain_cut [(fVar 6), (fTup [(fTup []), (fTup [(fC (.str (Str.ofString "a"))), (fC (.str (Str.ofString "b")))]), (fTup [(fC (.str (Str.ofString "b")))]), (fTup [(fC (.str (Str.ofString "b"))), (fC (.str (Str.ofString "c")))]), (fTup [(fC (.str (Str.ofString "c")))])])]))
  (fThen (fApp 2 (fTup [(fTup [])]))
  (fThen (fAsg 0 (fLst [(fTup [(fTup [])]), (fTup [(fTup [(fC (.str (Str.ofString "a")))]), (fTup [(fC (.str (Str.ofString "a"))), (fC (.str (Str.ofString "b")))])]), (fTup [(fTup [(fC (.str (Str.ofString "a"))), (fC (.str (Str.ofString "b")))]), (fTup [(fC (.str (Str.ofString "b")))])]), (fTup [(fTup [(fC (.str (Str.ofString "a")))]), (fTup [(fC (.str (Str.ofString "b")))])])]))
  (fThen (fOwn 1 (fOpF gCat (fVar 1) (fL (fLc (List.map (·.2) ([("_law_own", 8)] : List (Str × Nat))) (fWalk (fVar 0)) (gSh 8) fYes (fCallD [false, false] F_plain_cut [(fVar 7), (fVar 8)])))))
  (fThen (fOwn 2 (fOpF gCat (fVar 2) (fLst [(fTup [(fTup [(fTup [(fC (.str (Str.ofString "a"))), (fC (.bool false))]), (fTup [(fC (.str (Str.ofString "b"))), (fC (.bool false))])])]), (fTup [(fTup [(fTup [(fC (.str (Str.ofString "a"))), (fC (.bool true))])])])])))
  (fThen (fOwn 2 (fOpF gCat (fVar 2) (fLst [(fTup [(fTup [(fTup [(fC (.str (Str.ofString "a"))), (fC (.bool false))]), (fTup [(fC (.str (Str.ofString "b"))), (fC (.bool true))])]), (fTup [(fTup [(fC (.str (Str.ofString "a"))), (fC (.bool true))]), (fTup [(fC (.str (Str.ofString "b"))), (fC (.bool true))])])])])))
  (fThen (fApp 2 (fTup [(fTup [(fTup [(fC (.str (Str.ofString "a"))), (fC (.bool false))]), (fTup [(fC (.str (Str.ofString "b"))), (fC (.bool true))])]), (fTup [(fTup [(fC (.str (Str.ofString "a"))), (fC (.bool true))]), (fTup [(fC (.str (Str.ofString "b"))), (fC (.bool false))])])]))
  (fThen (fOwn 1 (fOpF gCat (fVar 1) (fLst [(fCallD [false, false] F_plain_cut [(fTup [(fTup []), (fTup [])]), (fTup [(fTup [])])]), (fCallD [false, false] F_plain_cut [(fTup [(fTup []), (fTup [])]), (fTup [])]), (fCallD [false, false] F_plain_cut [(fTup [(fTup []), (fTup [(fTup [])])]), (fTup [])])])))
  (fThen (fOwn 2 (fOpF gCat (fVar 2) (fLst [(fTup [(fTup [])]), (fTup []), (fTup [])])))
  (fThen (fAsg 3 (fTup [(fTup [(fC (.str (Str.ofString "a"))), (fC (.str (Str.ofString "b"))), (fC (.str (Str.ofString "c"))), (fC (.str (Str.ofString "d"))), (fC (.str (Str.ofString "e")))]), (fTup [])]))
  (fThen (fAsg 4 (fCall (g1 tupD) [(fL (fLc (List.map (·.2) ([("_law_own", 8)] : List (Str × Nat))) (fWalk (fCallD [false] F__law_spots [(fOp gIx (fVar 3) (fC (.int 0)))])) (gSh 8) (fB (fOp gNe (fVar 8) (fTup [(fC (.str (Str.ofString "a"))), (fC (.str (Str.ofString "b"))), (fC (.str (Str.ofString "c"))), (fC (.str (Str.ofString "d"))), (fC (.str (Str.ofString "e")))]))) (fVar 8)))]))
  (fThen (fAsg 5 (fCallD [false, false] F_plain_cut [(fVar 3), (fVar 4)]))
  (fThen (fOwn 1 (fOpF gCat (fVar 1) (fLst [(fCall (g1 lenD) [(fVar 5)]), (fOp gIx (fVar 5) (fC (.int 0))), (fOp gIx (fVar 5) (fNegI (fC (.int 1)))), (fOp gEq (fCallD [false, false] F_land_of [(fVar 3), (fVar 5)]) (fVar 4))])))
  (fThen (fOwn 2 (fOpF gCat (fVar 2) (fLst [(fC (.int 5)), (fTup [(fTup [(fC (.str (Str.ofString "a"))), (fC (.bool false))])]), (fTup [(fTup [(fC (.str (Str.ofString "a"))), (fC (.bool true))]), (fTup [(fC (.str (Str.ofString "b"))), (fC (.bool true))]), (fTup [(fC (.str (Str.ofString "c"))), (fC (.bool true))]), (fTup [(fC (.str (Str.ofString "d"))), (fC (.bool true))]), (fTup [(fC (.str (Str.ofString "e"))), (fC (.bool false))])]), (fC (.bool true))])))
  (fThen (fApp 1 (fCallKw [false, false] F_plain_cut [1, 0] [(fLst [(fLst [(fC (.str (Str.ofString "b"))), (fC (.str (Str.ofString "c")))]), (fLst [(fC (.str (Str.ofString "c")))])]), (fCallD [false] (F__law_lists 8) [(fVar 6)])]))
  (fRet (fCallD [false, false] (F__law_same 8) [(fVar 1), (fOp gPlus (fVar 2) (fLst [(fTup [(fTup [(fTup [(fC (.str (Str.ofString "a"))), (fC (.bool false))]), (fTup [(fC (.str (Str.ofString "b"))), (fC (.bool false))]), (fTup [(fC (.str (Str.ofString "c"))), (fC (.bool true))])]), (fTup [(fTup [(fC (.str (Str.ofString "a"))), (fC (.bool false))]), (fTup [(fC (.str (Str.ofString "b"))), (fC (.bool true))]), (fTup [(fC (.str (Str.ofString "c"))), (fC (.bool true))])])])]))])))))))))))))))))))))))
def F__law_by_hand_right : Fn := runD [] 9 f__law_by_hand_right
def f__law_take : Ss := (fThen (fIfS (fB (fOp gGtA (fOp gIx (fVar 0) (fC (.int 0))) (fC (.int 0)))) (fThen (fAsg 5 (fOp gMod (fCall (g1 intD) [(fOp gIx (fVar 0) (fC (.int 0)))]) (fVar 1)))
  (fThen (fPut 0 (fC (.int 0)) (fOp gDiv (fOp gIx (fVar 0) (fC (.int 0))) (fVar 1)))
  (fRet (fVar 5)))) fNil)
  (fThen (fPut 0 (fC (.int 2)) (fOp gPlus (fOp gIx (fVar 0) (fC (.int 2))) (fC (.int 1))))
  (fThen (fAsg 2 (fOp gMod (fCall (g1 intD) [(fOp gMul (fOp gPlus (fOp gIx (fVar 0) (fC (.int 1))) (fOp gMul (fC (.int 48271)) (fOp gIx (fVar 0) (fC (.int 2))))) (fOp gPlus (fC (.int 39373)) (fOp gIx (fVar 0) (fC (.int 2)))))]) (fC (.int 2147483647))))
  (fThen (fAsg 3 (fOp gPlus (fOp gMod (fCall (g1 intD) [(fVar 2)]) (fC (.int 40009))) (fC (.int 7))))
  (fThen (fAsg 4 (fOp gMod (fCall (g1 intD) [(fOp gMul (fOp gPlus (fOp gPlus (fVar 2) (fOp gIx (fVar 0) (fC (.int 2)))) (fOp gDiv (fOp gIx (fVar 0) (fC (.int 1))) (fC (.int 1000003)))) (fVar 3))]) (fC (.int 2147483629))))
  (fRet (fOp gMod (fCall (g1 intD) [(fOp gDiv (fOp gMod (fCall (g1 intD) [(fOp gPlus (fOp gMul (fVar 4) (fC (.int 48271))) (fVar 2))]) (fC (.int 2147483587))) (fC (.int 64)))]) (fVar 1))))))))
def F__law_take : Fn := runD [true, false] 6 f__law_take
def f__law_clause : Ss := (fThen (fAsg 2 (fL (fLc (List.map (·.2) ([("_law_tag", 3)] : List (Str × Nat))) (fWalk (fVar 1)) (gSh 3) fYes (fTup [(fVar 3), (fCallD [true, false] F__law_take [(fVar 0), (fC (.int 4))])]))))
  (fRet (fCall (g1 tupD) [(fL (fLc (List.map (·.2) ([("_law_tag", 3), ("_law_way_so", 4)] : List (Str × Nat))) (fWalk (fVar 2)) (gTupF 2 (gsCons (gSh 3) (gsCons (gSh 4) gsNil))) (fB (fOp gLtA (fVar 4) (fC (.int 2)))) (fTup [(fVar 3), (fOp gEq (fVar 4) (fC (.int 1)))])))])))
def F__law_clause : Fn := runD [true, false] 5 f__law_clause
def f__law_of : Ss := (fRet (fOp gIx (fVar 1) (fCallD [true, false] F__law_take [(fVar 0), (fCall (g1 lenD) [(fVar 1)])])))
def F__law_of : Fn := runD [true, false] 2 f__law_of
def f__law_chart : Ss := (fThen (fAsg 2 (fL (fCallF (g1L sortedD) [(fSl (fLst [(fC (.str (Str.ofString "m"))), (fC (.str (Str.ofString "b"))), (fC (.str (Str.ofString "x"))), (fC (.str (Str.ofString "aa"))), (fC (.str (Str.ofString "k")))]) oNone (oSome (fCall maxD [(fC (.int 0)), (fOp gSub (fVar 1) (fCallD [true, false] F__law_of [(fVar 0), (fLst [(fC (.int 0)), (fC (.int 0)), (fC (.int 0)), (fC (.int 0)), (fC (.int 1)), (fC (.int 2)), (fC (.int 3)), (fC (.int 4))])]))])))])))
  (fThen (fAsg 3 (fL (fLc (List.map (·.2) ([("_law_turn", 4)] : List (Str × Nat))) (fCallF rng1 [(fCallD [true, false] F__law_take [(fVar 0), (fC (.int 4))])]) (gSh 4) fYes (fCallD [true, false] F__law_clause [(fVar 0), (fVar 2)]))))
  (fThen (fAsg 3 (fL (fLc (List.map (·.2) ([("_law_own", 5)] : List (Str × Nat))) (fWalk (fVar 3)) (gSh 5) (fB (fOp gGeA (fCall (g1 lenD) [(fVar 5)]) (fCallD [true, false] F__law_of [(fVar 0), (fLst [(fC (.int 2)), (fC (.int 2)), (fC (.int 2)), (fC (.int 2)), (fC (.int 1)), (fC (.int 0))])]))) (fVar 5))))
  (fRet (fTup [(fCall (g1 tupD) [(fVar 2)]), (fCall (g1 tupD) [(fL (fG1F sortSetD (fVar 3)))])])))))
def F__law_chart : Fn := runD [true, false] 6 f__law_chart
def f__law_in : Ss := (fThen (fFor (fWalk (fVar 1)) (gSh 2) (fIfS (fB (fOp gEq (fL (fLc (List.map (·.2) ([("_law_tag", 3), ("_law_side_so", 4)] : List (Str × Nat))) (fWalk (fVar 2)) (gTupF 2 (gsCons (gSh 3) (gsCons (gSh 4) gsNil))) (fB (fOp gNe (fOp (gInB false) (fVar 3) (fVar 0)) (fVar 4))) (fVar 3))) (fLst []))) (fRet (fC (.bool true))) fNil))
  (fRet (fC (.bool false))))
def F__law_in : Fn := runD [false, false] 5 f__law_in
def f__law_let : Ss := (fRet (fL (fLc (List.map (·.2) ([("_law_own", 1)] : List (Str × Nat))) (fWalk (fCallD [false] F__law_spots [(fOp gIx (fVar 0) (fC (.int 0)))])) (gSh 1) (fNot (fT (fCallD [false, false] F__law_in [(fVar 1), (fOp gIx (fVar 0) (fC (.int 1)))]))) (fVar 1))))
def F__law_let : Fn := runD [false] 2 f__law_let
def f__law_land : Ss := (fRet (fCall (g1 tupD) [(fL (fLc (List.map (·.2) ([("_law_own", 2)] : List (Str × Nat))) (fWalk (fCallD [false] F__law_let [(fVar 0)])) (gSh 2) (fT (fCallD [false, false] F__law_in [(fVar 2), (fVar 1)])) (fVar 2)))]))
def F__law_land : Fn := runD [false, false] 3 f__law_land
def f__law_parted (Fr : Fn) : Ss := (fThen (fAsg 4 (fL (fLc (List.map (·.2) ([("_law_own", 8)] : List (Str × Nat))) (fWalk (fVar 1)) (gSh 8) (fB (fOp (gInB false) (fVar 8) (fVar 2))) (fVar 8))))
  (fThen (fIfS (fB (fOp gEq (fVar 4) (fLst []))) (fRet (fLst [])) fNil)
  (fThen (fIfS (fB (fOp gEq (fVar 4) (fVar 1))) (fRet (fLst [(fVar 3)])) fNil)
  (fThen (fAsg 5 (fLst []))
  (fThen (fFor (fWalk (fTup [(fC (.bool false)), (fC (.bool true))])) (gSh 6) (fThen (fAsg 7 (fL (fLc (List.map (·.2) ([("_law_own", 8)] : List (Str × Nat))) (fWalk (fVar 1)) (gSh 8) (fB (fOp gEq (fOp (gInB false) (fOp gIx (fVar 0) (fC (.int 0))) (fVar 8)) (fVar 6))) (fVar 8))))
  (fAsg 5 (fOp gPlus (fVar 5) (fCallD [false, false, false, false] Fr [(fSl (fVar 0) (oSome (fC (.int 1))) oNone), (fVar 7), (fVar 2), (fOp gPlus (fVar 3) (fTup [(fTup [(fOp gIx (fVar 0) (fC (.int 0))), (fVar 6)])]))])))))
  (fRet (fVar 5)))))))
def F__law_parted : Nat → Fn
  | 0 => fun _ => none
  | n + 1 => runD [false, false, false, false] 9 (f__law_parted (F__law_parted n))
def f_lookup : Ss := (fRet (fD (fDc (List.map (·.2) ([("name", 1)] : List (Str × Nat))) (fWalk (fVar 0)) (gSh 1) fYes (fVar 1) (fC (.bool true)))))
def F_lookup : Fn := runD [false] 2 f_lookup
def f_is_ascending : Ss := (fRet (fCall (g1 allD) [(fL (fLc (List.map (·.2) ([("at", 1)] : List (Str × Nat))) (fCallF rng1 [(fOp gSub (fCall (g1 lenD) [(fVar 0)]) (fC (.int 1)))]) (gSh 1) fYes (fOp gLtA (fOp gIx (fVar 0) (fVar 1)) (fOp gIx (fVar 0) (fOp gPlus (fVar 1) (fC (.int 1)))))))]))
def F_is_ascending : Fn := runD [false] 2 f_is_ascending
def f_is_row : Ss := (fRet (fAndT (fIsi ["tuple"] (fVar 0)) (fOp gEq (fCall (g1 lenD) [(fVar 0)]) (fVar 1))))
def F_is_row : Fn := runD [false, false] 2 f_is_row
def f_is_side : Ss := (fThen (fIfS (fNot (fT (fCallD [false, false] F_is_row [(fVar 1), (fC (.int 2))]))) (fRet (fC (.bool false))) fNil)
  (fThen (fAsgT (gTupF 2 (gsCons (gSh 2) (gsCons (gSh 3) gsNil))) (fVar 1))
  (fRet (fAndT (fIsi ["str"] (fVar 2)) (fAndT (fOp (gInB false) (fVar 2) (fVar 0)) (fIsi ["bool"] (fVar 3)))))))
def F_is_side : Fn := runD [false, false] 4 f_is_side
def f_is_condition_over : Ss := (fThen (fIfS (fOr (fNot (fT (fIsi ["tuple"] (fVar 1)))) (fNot (fT (fCall (g1 allD) [(fL (fLc (List.map (·.2) ([("pair", 2)] : List (Str × Nat))) (fWalk (fVar 1)) (gSh 2) fYes (fCallD [false, false] F_is_side [(fVar 0), (fVar 2)])))])))) (fRet (fC (.bool false))) fNil)
  (fRet (fCallD [false] F_is_ascending [(fL (fLc (List.map (·.2) ([("pair", 2)] : List (Str × Nat))) (fWalk (fVar 1)) (gSh 2) fYes (fOp gIx (fVar 2) (fC (.int 0)))))])))
def F_is_condition_over : Fn := runD [false, false] 3 f_is_condition_over
def f_is_cut : Ss := (fThen (fIfS (fNot (fT (fIsi ["tuple"] (fVar 1)))) (fRet (fC (.bool false))) fNil)
  (fThen (fAsg 2 (fCallD [false] F_lookup [(fVar 0)]))
  (fRet (fAndT (fCall (g1 allD) [(fL (fLc (List.map (·.2) ([("condition", 3)] : List (Str × Nat))) (fWalk (fVar 1)) (gSh 3) fYes (fCallD [false, false] F_is_condition_over [(fVar 2), (fVar 3)])))]) (fCallD [false] F_is_ascending [(fVar 1)])))))
def F_is_cut : Fn := runD [false, false] 4 f_is_cut
def f__law_case_right : Ss := (fThen (fAsg 2 (fCall (g1 tupD) [(fL (fCallF (g1L sortedD) [(fCallD [false, false, false, false] (F__law_parted 8) [(fOp gIx (fVar 0) (fC (.int 0))), (fCallD [false] F__law_let [(fVar 0)]), (fVar 1), (fTup [])])]))]))
  (fThen (fAsg 3 (fLst [(fCallD [false, false] F_plain_cut [(fVar 0), (fVar 1)]), (fCallD [false, false] F_plain_cut [(fCallD [false] (F__law_lists 8) [(fVar 0)]), (fCallD [false] (F__law_lists 8) [(fVar 1)])])]))
  (fThen (fIfS (fOr (fNot (fT (fCallD [false, false] (F__law_same 8) [(fVar 3), (fLst [(fVar 2), (fVar 2)])]))) (fOr (fNot (fT (fCallD [false, false] F_is_cut [(fOp gIx (fVar 0) (fC (.int 0))), (fVar 2)]))) (fB (fOp gNe (fCallD [false, false] F_land_of [(fVar 0), (fVar 2)]) (fVar 1))))) (fRet (fC (.bool false))) fNil)
  (fThen (fFor (fCallF rng1 [(fIf (fB (fOp gLtA (fCall (g1 lenD) [(fVar 2)]) (fC (.int 8)))) (fCall (g1 lenD) [(fVar 2)]) (fC (.int 0)))]) (gSh 4) (fIfS (fB (fOp gEq (fCallD [false, false] F_land_of [(fVar 0), (fOp gPlus (fSl (fVar 2) oNone (oSome (fVar 4))) (fSl (fVar 2) (oSome (fOp gPlus (fVar 4) (fC (.int 1)))) oNone))]) (fVar 1))) (fRet (fC (.bool false))) fNil))
  (fRet (fC (.bool true)))))))
def F__law_case_right : Fn := runD [false, false] 5 f__law_case_right
def f__law_cut : Ss := (fRet (fCall (g1 tupD) [(fL (fG1F sortSetD (fL (fLc (List.map (·.2) ([("_law_turn", 3)] : List (Str × Nat))) (fCallF rng1 [(fCallD [true, false] F__law_take [(fVar 0), (fOp gPlus (fVar 2) (fC (.int 1)))])]) (gSh 3) fYes (fCallD [true, false] F__law_clause [(fVar 0), (fVar 1)])))))]))
def F__law_cut : Fn := runD [true, false, false] 4 f__law_cut
def f__law_right : Ss := (fThen (fFor (fCallF rng1 [(fC (.int 3))]) (gSh 1) (fThen (fAsg 2 (fCallD [true, false] F__law_chart [(fVar 0), (fC (.int 4))]))
  (fThen (fAsg 3 (fCall (g1 tupD) [(fL (fLc (List.map (·.2) ([("_law_own", 8)] : List (Str × Nat))) (fWalk (fCallD [false] F__law_let [(fVar 2)])) (gSh 8) (fB (fOp gEq (fCallD [true, false] F__law_take [(fVar 0), (fC (.int 2))]) (fC (.int 0)))) (fVar 8)))]))
  (fThen (fIfS (fB (fOp gEq (fCallD [true, false] F__law_take [(fVar 0), (fC (.int 2))]) (fC (.int 0)))) (fAsg 3 (fCallD [false, false] F__law_land [(fVar 2), (fCallD [true, false, false] F__law_cut [(fVar 0), (fOp gIx (fVar 2) (fC (.int 0))), (fC (.int 2))])])) fNil)
  (fThen (fIfS (fNot (fT (fCallD [false, false] F__law_case_right [(fVar 2), (fVar 3)]))) (fRet (fC (.bool false))) fNil)
  (fThen (fPar [6, 7] [(fCallD [true, false, false] F__law_cut [(fVar 0), (fOp gIx (fVar 2) (fC (.int 0))), (fC (.int 2))]), (fCallD [true, false, false] F__law_cut [(fVar 0), (fOp gIx (fVar 2) (fC (.int 0))), (fC (.int 2))])])
  (fThen (fAsg 4 (fOp gEq (fCallD [false, false] F__law_land [(fVar 2), (fVar 6)]) (fCallD [false, false] F__law_land [(fVar 2), (fVar 7)])))
  (fThen (fAsg 5 (fL (fLc (List.map (·.2) ([("_law_own", 8)] : List (Str × Nat))) (fWalk (fTup [(fVar 6), (fVar 7)])) (gSh 8) fYes (fCallD [false, false] F_plain_cut [(fVar 2), (fCallD [false, false] F_land_of [(fVar 2), (fVar 8)])]))))
  (fIfS (fB (fOp gNe (fOp gEq (fOp gIx (fVar 5) (fC (.int 0))) (fOp gIx (fVar 5) (fC (.int 1)))) (fVar 4))) (fRet (fC (.bool false))) fNil)))))))))
  (fRet (fC (.bool true))))
def F__law_right : Fn := runD [true] 9 f__law_right
def f__law_box : Ss := (fThen (fAsg 2 (fIf (fB (fOp gLtA (fVar 1) (fCall (g1 lenD) [(fVar 0)]))) (fOp gIx (fVar 0) (fVar 1)) (fC (.int 0))))
  (fRetF (fDisp [(fOp gMul (fCall (g1 absD) [(fVar 2)]) (fCall (g1 intD) [(fOp gGeA (fCall (g1 absD) [(fVar 2)]) (fOp gPow (fC (.int 10)) (fC (.int 18))))])), (fOp gPlus (fOp gPlus (fOp gMod (fCall (g1 intD) [(fVar 2)]) (fC (.int 2305843009213693951))) (fOp gMul (fC (.int 39373)) (fVar 1))) (fC (.int 1071003))), (fC (.int 0))])))
def F__law_box : Fn := runO [false, false] 3 f__law_box
def f_law : Ss := (fThen (fIfS (fNot (fT (fCallD [] F__law_by_hand_right []))) (fRet (fC (.bool false))) fNil)
  (fThen (fAsg 1 (fCallD [false, false] F__law_cells [(fVar 0), (fC (.int 3))]))
  (fRet (fCall (g1 allD) [(fL (fLc (List.map (·.2) ([("_law_k", 2)] : List (Str × Nat))) (fCallF rng1 [(fCall (g1 lenD) [(fVar 1)])]) (gSh 2) fYes (fCallL F__law_right (fCallO [false, false] F__law_box [(fVar 1), (fVar 2)]))))]))))
def F_law : Fn := runD [false] 3 f_law
structure Env (K : PySem.W.Frag) (mg : Str → Option Value) : Prop where
  n_list : mg "list" = none
  n_enumerate : mg "enumerate" = none
  n_int : mg "int" = none
  n_all : mg "all" = none
  n_len : mg "len" = none
  n_sorted : mg "sorted" = none
  n_tuple : mg "tuple" = none
  n_any : mg "any" = none
  n_isinstance : mg "isinstance" = none
  n_zip : mg "zip" = none
  n_str : mg "str" = none
  n_bool : mg "bool" = none
  n_max : mg "max" = none
  n_range : mg "range" = none
  n_set : mg "set" = none
  n_abs : mg "abs" = none
  d__law_cells : ∃ f fd, FnP K "_law_cells" s__law_cells f fd ∧ mg "_law_cells" = some (.ref f)
  d_keeps : ∃ f fd, FnP K "keeps" s_keeps f fd ∧ mg "keeps" = some (.ref f)
  d_plain_parts : ∃ f fd, FnP K "plain_parts" s_plain_parts f fd ∧ mg "plain_parts" = some (.ref f)
  d_all_parts : ∃ f fd, FnP K "all_parts" s_all_parts f fd ∧ mg "all_parts" = some (.ref f)
  d_spots_of : ∃ f fd, FnP K "spots_of" s_spots_of f fd ∧ mg "spots_of" = some (.ref f)
  d_is_in : ∃ f fd, FnP K "is_in" s_is_in f fd ∧ mg "is_in" = some (.ref f)
  d_let_spots : ∃ f fd, FnP K "let_spots" s_let_spots f fd ∧ mg "let_spots" = some (.ref f)
  d_as_tuples : ∃ f fd, FnP K "as_tuples" s_as_tuples f fd ∧ mg "as_tuples" = some (.ref f)
  d_plain_cut : ∃ f fd, FnP K "plain_cut" s_plain_cut f fd ∧ mg "plain_cut" = some (.ref f)
  d__law_same : ∃ f fd, FnP K "_law_same" s__law_same f fd ∧ mg "_law_same" = some (.ref f)
  d__law_three : ∃ f fd, FnP K "_law_three" s__law_three f fd ∧ mg "_law_three" = some (.ref f)
  d__law_spots : ∃ f fd, FnP K "_law_spots" s__law_spots f fd ∧ mg "_law_spots" = some (.ref f)
  d_land_of : ∃ f fd, FnP K "land_of" s_land_of f fd ∧ mg "land_of" = some (.ref f)
  d__law_lists : ∃ f fd, FnP K "_law_lists" s__law_lists f fd ∧ mg "_law_lists" = some (.ref f)
  d__law_by_hand_right : ∃ f fd, FnP K "_law_by_hand_right" s__law_by_hand_right f fd ∧ mg "_law_by_hand_right" = some (.ref f)
  d__law_take : ∃ f fd, FnP K "_law_take" s__law_take f fd ∧ mg "_law_take" = some (.ref f)
  d__law_clause : ∃ f fd, FnP K "_law_clause" s__law_clause f fd ∧ mg "_law_clause" = some (.ref f)
  d__law_of : ∃ f fd, FnP K "_law_of" s__law_of f fd ∧ mg "_law_of" = some (.ref f)
  d__law_chart : ∃ f fd, FnP K "_law_chart" s__law_chart f fd ∧ mg "_law_chart" = some (.ref f)
  d__law_in : ∃ f fd, FnP K "_law_in" s__law_in f fd ∧ mg "_law_in" = some (.ref f)
  d__law_let : ∃ f fd, FnP K "_law_let" s__law_let f fd ∧ mg "_law_let" = some (.ref f)
  d__law_land : ∃ f fd, FnP K "_law_land" s__law_land f fd ∧ mg "_law_land" = some (.ref f)
  d__law_parted : ∃ f fd, FnP K "_law_parted" s__law_parted f fd ∧ mg "_law_parted" = some (.ref f)
  d_lookup : ∃ f fd, FnP K "lookup" s_lookup f fd ∧ mg "lookup" = some (.ref f)
  d_is_ascending : ∃ f fd, FnP K "is_ascending" s_is_ascending f fd ∧ mg "is_ascending" = some (.ref f)
  d_is_row : ∃ f fd, FnP K "is_row" s_is_row f fd ∧ mg "is_row" = some (.ref f)
  d_is_side : ∃ f fd, FnP K "is_side" s_is_side f fd ∧ mg "is_side" = some (.ref f)
  d_is_condition_over : ∃ f fd, FnP K "is_condition_over" s_is_condition_over f fd ∧ mg "is_condition_over" = some (.ref f)
  d_is_cut : ∃ f fd, FnP K "is_cut" s_is_cut f fd ∧ mg "is_cut" = some (.ref f)
  d__law_case_right : ∃ f fd, FnP K "_law_case_right" s__law_case_right f fd ∧ mg "_law_case_right" = some (.ref f)
  d__law_cut : ∃ f fd, FnP K "_law_cut" s__law_cut f fd ∧ mg "_law_cut" = some (.ref f)
  d__law_right : ∃ f fd, FnP K "_law_right" s__law_right f fd ∧ mg "_law_right" = some (.ref f)
  d__law_box : ∃ f fd, FnP K "_law_box" s__law_box f fd ∧ mg "_law_box" = some (.ref f)
  d_law : ∃ f fd, FnP K "law" s_law f fd ∧ mg "law" = some (.ref f)
section
variable {P : Program} {w : World} {K : PySem.W.Frag} {mg : Str → Option Value} {base : Heap} {f : Addr} {fd : FuncData}
theorem ok__law_cells (E : Env K mg) (F : FnP K "_law_cells" s__law_cells f fd) : FnOk P w K mg base CX0 1 f fd ["_law_script", "_law_top_so"] (spD K [false, false] F__law_cells) := by
  refine def_ok F sc__law_cells rfl (by decide) fun cdv A outer s H X c hr => ?_
  have hu := hr.units
  have hu5 := room5 hr
  have hu1 := room1 hr
  exact (sss_cons (ss_own sc__law_cells.nd rfl (Or.inl rfl) (sf_or (sf_callTy call_list_of cg_list rfl E.n_list PyProof.Rows.boot_list (sa_cons (se_slice (se_var (pv 0)) so_none (so_some (se_var (pv 1)))) sa_nil)) (sf_or1 (sf_lst (sa_cons se_int sa_nil)))))
    (sss_cons (ss_for PassesOwn.never rfl (si_enum rfl E.n_enumerate (sa_cons (se_slice (se_var (pv 0)) (so_some (se_var (pv 1))) (so_some se_int)) sa_nil)) (pg_seq rfl (pgs_cons (pg_name (i := 3) sc__law_cells.nd rfl (Or.inl rfl)) (pgs_cons (pg_name (i := 4) sc__law_cells.nd rfl (Or.inl rfl)) pgs_nil))) (gok_tup (gsok_cons gok_name (gsok_cons gok_name gsok_nil))) (sss_cons (ss_set sc__law_cells.nd rfl (Or.inl rfl) (se_op op_mod opg_mod (se_callTy call_int1 cg_int rfl E.n_int PyProof.Rows.boot_int (sa_cons (se_var (pv 3)) sa_nil)) (se_var (pv 1))))
    (sss_one (ss_put hu1 (pv 2) (se_var (pv 5)) (se_op op_plus opg_plus (se_ix ix_two opg_ix (se_var (pv 2)) (se_var (pv 5)) (fun _ _ => rfl)) (se_op op_mul opg_mul (se_var (pv 4)) (se_op op_plus opg_plus (se_var (pv 3)) se_int)))))))
    (sss_one (ss_ret (se_var (pv 2))))))

theorem ok_keeps (E : Env K mg) (F : FnP K "keeps" s_keeps f fd) : FnOk P w K mg base CX0 1 f fd ["spot", "condition"] (spD K [false, false] F_keeps) := by
  refine def_ok F sc_keeps rfl (by decide) fun cdv A outer s H X c hr => ?_
  have hu := hr.units
  have hu5 := room5 hr
  have hu1 := room1 hr
  exact (sss_one (ss_ret (se_callB (cr_all rfl) cg_all rfl E.n_all PyProof.Rows.boot_all (sa_cons (se_fl (sf_lc rfl sc_keeps.nd (si_walk (se_var (pv 1))) (blkOk_by (own := [("name", 2), ("inside", 3)]) (N := N_keeps) (by kernel_rfl)) (gok_tup (gsok_cons gok_name (gsok_cons gok_name gsok_nil))) (by decide) (fun _ _ _ _ _ => (pg_seq rfl (pgs_cons (pg_name (i := 2) sc_keeps.nd rfl (Or.inl rfl)) (pgs_cons (pg_name (i := 3) sc_keeps.nd rfl (Or.inl rfl)) pgs_nil)))) (fun _ _ _ _ _ _ => sts_nil) (fun _ _ _ _ _ _ => (se_cmp (op_eqD hu) opg_eq (se_cmp (op_inB hu5) opg_inB (se_var (pv 2)) (se_var (pv 0)) rfl) (se_var (pv 3)) (nomark _))))) sa_nil))))

theorem okr_plain_parts (E : Env K mg) (F : FnP K "plain_parts" s_plain_parts f fd) (g_plain_parts : mg "plain_parts" = some (.ref f)) : ∀ n : Nat, FnOk P w K mg base CX0 (n + 2) f fd ["areas", "let", "land", "condition"] (spD K [false, false, false, false] (F_plain_parts n))
  | 0 => none_ok F sc_plain_parts
  | n + 1 => by
    obtain ⟨f_keeps, fd_keeps, T_keeps, g_keeps⟩ := E.d_keeps
    have G_keeps := ok_keeps (P := P) (w := w) (base := base) E T_keeps
    have b_keeps : Binds K fd_keeps ["spot", "condition"] [] := T_keeps.bindsN fun _ _ _ _ _ _ us hl => match us, hl with | [_, _], _ => rfl
    have G_plain_parts := okr_plain_parts E F g_plain_parts n
    have T_plain_parts := F
    have b_plain_parts : Binds K fd ["areas", "let", "land", "condition"] [] := F.bindsN fun _ _ _ _ _ _ us hl => match us, hl with | [_, _, _, _], _ => rfl
    refine def_ok F sc_plain_parts rfl (by decide) fun cdv A outer s H X c hr => ?_
    have hu := hr.units
    have hu5 := room5 hr
    have hu1 := room1 hr
    exact (sss_cons (ss_lcSet rfl sc_plain_parts.nd rfl rfl (sw_true rfl rfl rfl (by decide +kernel)) (si_walk (se_var (pv 1))) (blkOk_by (own := [("spot", 8)]) (N := N_plain_parts) (by kernel_rfl)) gok_name (by decide) (fun _ _ _ _ _ => (pg_name (i := 8) sc_plain_parts.nd rfl (Or.inl rfl))) (fun _ _ _ _ _ _ => (sts_one (st_tru (se_call G_keeps (roomLe hr (by omega)) rfl g_keeps T_keeps.kp b_keeps (sa_cons (se_var (pv 8)) (sa_cons (se_var (pv 3)) sa_nil)))))) (fun _ _ _ _ _ _ => (se_var (pv 8))))
      (sss_cons (ss_lcSet rfl sc_plain_parts.nd rfl rfl (sw_true rfl rfl rfl (by decide +kernel)) (si_walk (se_var (pv 4))) (blkOk_by (own := [("spot", 8)]) (N := N_plain_parts) (by kernel_rfl)) gok_name (by decide) (fun _ _ _ _ _ => (pg_name (i := 8) sc_plain_parts.nd rfl (Or.inl rfl))) (fun _ _ _ _ _ _ => (sts_one (st_cmp (op_inB hu5) opg_inB (se_var (pv 8)) (se_var (pv 2)) rfl))) (fun _ _ _ _ _ _ => (se_var (pv 8))))
      (sss_cons (ss_if (st_not (st_tru (se_var (pv 5)))) (sss_one (ss_ret (se_lst sa_nil))) sss_nil)
      (sss_cons (ss_if (st_cmp (op_eqD hu) opg_eq (se_callB call_lenA cg_len rfl E.n_len PySem.boot_len (sa_cons (se_var (pv 5)) sa_nil)) (se_callB call_lenA cg_len rfl E.n_len PySem.boot_len (sa_cons (se_var (pv 4)) sa_nil)) (nomark _)) (sss_one (ss_ret (se_lst (sa_cons (se_var (pv 3)) sa_nil)))) sss_nil)
      (sss_cons (ss_set sc_plain_parts.nd rfl (Or.inl rfl) (se_ix ix_two opg_ix (se_var (pv 0)) (se_callB call_lenA cg_len rfl E.n_len PySem.boot_len (sa_cons (se_var (pv 3)) sa_nil)) (fun _ _ => rfl)))
      (sss_cons (ss_set sc_plain_parts.nd rfl (Or.inl rfl) (se_call G_plain_parts (roomLe hr (by omega)) rfl g_plain_parts T_plain_parts.kp b_plain_parts (sa_cons (se_var (pv 0)) (sa_cons (se_var (pv 1)) (sa_cons (se_var (pv 2)) (sa_cons (se_op op_plus opg_plus (se_var (pv 3)) (se_tup (sa_cons (se_tup (sa_cons (se_var (pv 6)) (sa_cons se_bl sa_nil))) sa_nil))) sa_nil))))))
      (sss_one (ss_ret (se_op op_plus opg_plus (se_var (pv 7)) (se_call G_plain_parts (roomLe hr (by omega)) rfl g_plain_parts T_plain_parts.kp b_plain_parts (sa_cons (se_var (pv 0)) (sa_cons (se_var (pv 1)) (sa_cons (se_var (pv 2)) (sa_cons (se_op op_plus opg_plus (se_var (pv 3)) (se_tup (sa_cons (se_tup (sa_cons (se_var (pv 6)) (sa_cons se_bl sa_nil))) sa_nil))) sa_nil))))))))))))))

theorem ok_all_parts (E : Env K mg) (F : FnP K "all_parts" s_all_parts f fd) : FnOk P w K mg base CX0 1 f fd ["members"] (spD K [false] F_all_parts) := by
  refine def_ok F sc_all_parts rfl (by decide) fun cdv A outer s H X c hr => ?_
  have hu := hr.units
  have hu5 := room5 hr
  have hu1 := room1 hr
  exact (sss_cons (ss_set sc_all_parts.nd rfl (Or.inl rfl) (se_lst (sa_cons (se_tup sa_nil) sa_nil)))
    (sss_cons (ss_for PassesOwn.never rfl (si_walk (se_var (pv 0))) (pg_name (i := 2) sc_all_parts.nd rfl (Or.inr rfl)) gok_name (sss_one (ss_set sc_all_parts.nd rfl (Or.inl rfl) (se_op op_plus opg_plus (se_var (pv 1)) (se_fl (sf_lc rfl sc_all_parts.nd (si_walk (se_var (pv 1))) (blkOk_by (own := [("part", 3)]) (N := N_all_parts) (by kernel_rfl)) gok_name (by decide) (fun _ _ _ _ _ => (pg_name (i := 3) sc_all_parts.nd rfl (Or.inl rfl))) (fun _ _ _ _ _ _ => sts_nil) (fun _ _ _ _ _ _ => (se_op op_plus opg_plus (se_var (pv 3)) (se_tup (sa_cons (se_var (pv 2)) sa_nil))))))))))
    (sss_one (ss_ret (se_callTy call_tuple_of cg_tuple rfl E.n_tuple PyProof.Rows.boot_tuple (sa_cons (se_fl (sf_callB (cr_sortD hu) cg_sorted rfl E.n_sorted PyProof.Rows.boot_sorted (sa_cons (se_var (pv 1)) sa_nil))) sa_nil))))))

theorem ok_spots_of (E : Env K mg) (F : FnP K "spots_of" s_spots_of f fd) : FnOk P w K mg base CX0 2 f fd ["areas"] (spD K [false] F_spots_of) := by
  obtain ⟨f_all_parts, fd_all_parts, T_all_parts, g_all_parts⟩ := E.d_all_parts
  have G_all_parts := ok_all_parts (P := P) (w := w) (base := base) E T_all_parts
  have b_all_parts : Binds K fd_all_parts ["members"] [] := T_all_parts.bindsN fun _ _ _ _ _ _ us hl => match us, hl with | [_], _ => rfl
  refine def_ok F sc_spots_of rfl (by decide) fun cdv A outer s H X c hr => ?_
  have hu := hr.units
  have hu5 := room5 hr
  have hu1 := room1 hr
  exact (sss_one (ss_ret (se_call G_all_parts (roomLe hr (by omega)) rfl g_all_parts T_all_parts.kp b_all_parts (sa_cons (se_var (pv 0)) sa_nil))))

theorem ok_is_in (E : Env K mg) (F : FnP K "is_in" s_is_in f fd) : FnOk P w K mg base CX0 2 f fd ["spot", "cut"] (spD K [false, false] F_is_in) := by
  obtain ⟨f_keeps, fd_keeps, T_keeps, g_keeps⟩ := E.d_keeps
  have G_keeps := ok_keeps (P := P) (w := w) (base := base) E T_keeps
  have b_keeps : Binds K fd_keeps ["spot", "condition"] [] := T_keeps.bindsN fun _ _ _ _ _ _ us hl => match us, hl with | [_, _], _ => rfl
  refine def_ok F sc_is_in rfl (by decide) fun cdv A outer s H X c hr => ?_
  have hu := hr.units
  have hu5 := room5 hr
  have hu1 := room1 hr
  exact (sss_one (ss_ret (se_callB (cr_any rfl) cg_any rfl E.n_any PyProof.Rows.boot_any (sa_cons (se_fl (sf_lc rfl sc_is_in.nd (si_walk (se_var (pv 1))) (blkOk_by (own := [("condition", 2)]) (N := N_is_in) (by kernel_rfl)) gok_name (by decide) (fun _ _ _ _ _ => (pg_name (i := 2) sc_is_in.nd rfl (Or.inl rfl))) (fun _ _ _ _ _ _ => sts_nil) (fun _ _ _ _ _ _ => (se_call G_keeps (roomLe hr (by omega)) rfl g_keeps T_keeps.kp b_keeps (sa_cons (se_var (pv 0)) (sa_cons (se_var (pv 2)) sa_nil)))))) sa_nil))))

theorem ok_let_spots (E : Env K mg) (F : FnP K "let_spots" s_let_spots f fd) : FnOk P w K mg base CX0 3 f fd ["chart"] (spD K [false] F_let_spots) := by
  obtain ⟨f_spots_of, fd_spots_of, T_spots_of, g_spots_of⟩ := E.d_spots_of
  have G_spots_of := ok_spots_of (P := P) (w := w) (base := base) E T_spots_of
  have b_spots_of : Binds K fd_spots_of ["areas"] [] := T_spots_of.bindsN fun _ _ _ _ _ _ us hl => match us, hl with | [_], _ => rfl
  obtain ⟨f_is_in, fd_is_in, T_is_in, g_is_in⟩ := E.d_is_in
  have G_is_in := ok_is_in (P := P) (w := w) (base := base) E T_is_in
  have b_is_in : Binds K fd_is_in ["spot", "cut"] [] := T_is_in.bindsN fun _ _ _ _ _ _ us hl => match us, hl with | [_, _], _ => rfl
  refine def_ok F sc_let_spots rfl (by decide) fun cdv A outer s H X c hr => ?_
  have hu := hr.units
  have hu5 := room5 hr
  have hu1 := room1 hr
  exact (sss_cons (ss_asg (se_var (pv 0)) (pg_seq rfl (pgs_cons (pg_name (i := 1) sc_let_spots.nd rfl (Or.inl rfl)) (pgs_cons (pg_name (i := 2) sc_let_spots.nd rfl (Or.inr rfl)) pgs_nil))) (gok_tup (gsok_cons gok_name (gsok_cons gok_name gsok_nil))))
    (sss_one (ss_ret (se_callTy call_tuple_of cg_tuple rfl E.n_tuple PyProof.Rows.boot_tuple (sa_cons (se_fl (sf_lc rfl sc_let_spots.nd (si_walk (se_call G_spots_of (roomLe hr (by omega)) rfl g_spots_of T_spots_of.kp b_spots_of (sa_cons (se_var (pv 1)) sa_nil))) (blkOk_by (own := [("spot", 3)]) (N := N_let_spots) (by kernel_rfl)) gok_name (by decide) (fun _ _ _ _ _ => (pg_name (i := 3) sc_let_spots.nd rfl (Or.inl rfl))) (fun _ _ _ _ _ _ => (sts_one (st_not (st_tru (se_call G_is_in (roomLe hr (by omega)) rfl g_is_in T_is_in.kp b_is_in (sa_cons (se_var (pv 3)) (sa_cons (se_var (pv 2)) sa_nil))))))) (fun _ _ _ _ _ _ => (se_var (pv 3))))) sa_nil)))))

theorem okr_as_tuples (E : Env K mg) (F : FnP K "as_tuples" s_as_tuples f fd) (g_as_tuples : mg "as_tuples" = some (.ref f)) : ∀ n : Nat, FnOk P w K mg base CX0 (n + 1) f fd ["value"] (spD K [false] (F_as_tuples n))
  | 0 => none_ok F sc_as_tuples
  | n + 1 => by
    have G_as_tuples := okr_as_tuples E F g_as_tuples n
    have T_as_tuples := F
    have b_as_tuples : Binds K fd ["value"] [] := F.bindsN fun _ _ _ _ _ _ us hl => match us, hl with | [_], _ => rfl
    refine def_ok F sc_as_tuples rfl (by decide) fun cdv A outer s H X c hr => ?_
    have hu := hr.units
    have hu5 := room5 hr
    have hu1 := room1 hr
    exact (sss_cons (ss_if (st_tru (se_isiT rfl E.n_isinstance (pa_ty rfl E.n_list PyProof.Rows.boot_list (pa_ty rfl E.n_tuple PyProof.Rows.boot_tuple pa_nil)) (se_var (pv 0)))) (sss_one (ss_ret (se_callTy call_tuple_of cg_tuple rfl E.n_tuple PyProof.Rows.boot_tuple (sa_cons (se_fl (sf_lc rfl sc_as_tuples.nd (si_walk (se_var (pv 0))) (blkOk_by (own := [("part", 1)]) (N := N_as_tuples) (by kernel_rfl)) gok_name (by decide) (fun _ _ _ _ _ => (pg_name (i := 1) sc_as_tuples.nd rfl (Or.inl rfl))) (fun _ _ _ _ _ _ => sts_nil) (fun _ _ _ _ _ _ => (se_call G_as_tuples (roomLe hr (by omega)) rfl g_as_tuples T_as_tuples.kp b_as_tuples (sa_cons (se_var (pv 1)) sa_nil))))) sa_nil)))) sss_nil)
      (sss_one (ss_ret (se_var (pv 0)))))

theorem ok_plain_cut (E : Env K mg) (F : FnP K "plain_cut" s_plain_cut f fd) : FnOk P w K mg base CX0 11 f fd ["chart", "land"] (spD K [false, false] F_plain_cut) := by
  obtain ⟨f_plain_parts, fd_plain_parts, T_plain_parts, g_plain_parts⟩ := E.d_plain_parts
  have G_plain_parts := okr_plain_parts (P := P) (w := w) (base := base) E T_plain_parts g_plain_parts 8
  have b_plain_parts : Binds K fd_plain_parts ["areas", "let", "land", "condition"] [] := T_plain_parts.bindsN fun _ _ _ _ _ _ us hl => match us, hl with | [_, _, _, _], _ => rfl
  obtain ⟨f_let_spots, fd_let_spots, T_let_spots, g_let_spots⟩ := E.d_let_spots
  have G_let_spots := ok_let_spots (P := P) (w := w) (base := base) E T_let_spots
  have b_let_spots : Binds K fd_let_spots ["chart"] [] := T_let_spots.bindsN fun _ _ _ _ _ _ us hl => match us, hl with | [_], _ => rfl
  obtain ⟨f_as_tuples, fd_as_tuples, T_as_tuples, g_as_tuples⟩ := E.d_as_tuples
  have G_as_tuples := okr_as_tuples (P := P) (w := w) (base := base) E T_as_tuples g_as_tuples 8
  have b_as_tuples : Binds K fd_as_tuples ["value"] [] := T_as_tuples.bindsN fun _ _ _ _ _ _ us hl => match us, hl with | [_], _ => rfl
  refine def_ok F sc_plain_cut rfl (by decide) fun cdv A outer s H X c hr => ?_
  have hu := hr.units
  have hu5 := room5 hr
  have hu1 := room1 hr
  exact (sss_one (ss_ret (se_callTy call_tuple_of cg_tuple rfl E.n_tuple PyProof.Rows.boot_tuple (sa_cons (se_call G_plain_parts (roomLe hr (by omega)) rfl g_plain_parts T_plain_parts.kp b_plain_parts (sa_cons (se_ix ix_two opg_ix (se_var (pv 0)) se_int (fun _ _ => rfl)) (sa_cons (se_call G_let_spots (roomLe hr (by omega)) rfl g_let_spots T_let_spots.kp b_let_spots (sa_cons (se_var (pv 0)) sa_nil)) (sa_cons (se_call G_as_tuples (roomLe hr (by omega)) rfl g_as_tuples T_as_tuples.kp b_as_tuples (sa_cons (se_var (pv 1)) sa_nil)) (sa_cons (se_tup sa_nil) sa_nil))))) sa_nil))))

theorem okr__law_same (E : Env K mg) (F : FnP K "_law_same" s__law_same f fd) (g__law_same : mg "_law_same" = some (.ref f)) : ∀ n : Nat, FnOk P w K mg base CX0 (n + 1) f fd ["_law_got", "_law_due"] (spD K [false, false] (F__law_same n))
  | 0 => none_ok F sc__law_same
  | n + 1 => by
    have G__law_same := okr__law_same E F g__law_same n
    have T__law_same := F
    have b__law_same : Binds K fd ["_law_got", "_law_due"] [] := F.bindsN fun _ _ _ _ _ _ us hl => match us, hl with | [_, _], _ => rfl
    refine def_ok F sc__law_same rfl (by decide) fun cdv A outer s H X c hr => ?_
    have hu := hr.units
    have hu5 := room5 hr
    have hu1 := room1 hr
    exact (sss_cons (ss_if (st_tru (se_isiT rfl E.n_isinstance (pa_ty rfl E.n_list PyProof.Rows.boot_list (pa_ty rfl E.n_tuple PyProof.Rows.boot_tuple pa_nil)) (se_var (pv 1)))) (sss_cons (ss_if (PW.pt (sw_or (st_cmp (op_neD hu) opg_ne (se_isi1 rfl E.n_isinstance rfl E.n_list PyProof.Rows.boot_list (se_var (pv 0))) (se_isi1 rfl E.n_isinstance rfl E.n_list PyProof.Rows.boot_list (se_var (pv 1))) (nomark _)) (sw_or1 (st_cmp (op_neD hu) opg_ne (se_isi1 rfl E.n_isinstance rfl E.n_tuple PyProof.Rows.boot_tuple (se_var (pv 0))) (se_isi1 rfl E.n_isinstance rfl E.n_tuple PyProof.Rows.boot_tuple (se_var (pv 1))) (nomark _))))) (sss_one (ss_ret se_bl)) sss_nil)
      (sss_one (ss_ret (se_andT (se_cmp (op_eqD hu) opg_eq (se_callB call_lenA cg_len rfl E.n_len PySem.boot_len (sa_cons (se_var (pv 0)) sa_nil)) (se_callB call_lenA cg_len rfl E.n_len PySem.boot_len (sa_cons (se_var (pv 1)) sa_nil)) (nomark _)) (se_one (se_callB (cr_all rfl) cg_all rfl E.n_all PyProof.Rows.boot_all (sa_cons (se_fl (sf_lc rfl sc__law_same.nd (si_zip rfl E.n_zip (sa_cons (se_var (pv 0)) (sa_cons (se_var (pv 1)) sa_nil))) (blkOk_by (own := [("_law_mine", 2), ("_law_its", 3)]) (N := N__law_same) (by kernel_rfl)) (gok_tup (gsok_cons gok_name (gsok_cons gok_name gsok_nil))) (by decide) (fun _ _ _ _ _ => (pg_seq rfl (pgs_cons (pg_name (i := 2) sc__law_same.nd rfl (Or.inl rfl)) (pgs_cons (pg_name (i := 3) sc__law_same.nd rfl (Or.inl rfl)) pgs_nil)))) (fun _ _ _ _ _ _ => sts_nil) (fun _ _ _ _ _ _ => (se_call G__law_same (roomLe hr (by omega)) rfl g__law_same T__law_same.kp b__law_same (sa_cons (se_var (pv 2)) (sa_cons (se_var (pv 3)) sa_nil)))))) sa_nil))))))) sss_nil)
      (sss_cons (ss_if (PW.pt (sw_or (st_cmp op_isN opg_isN (se_var (pv 1)) se_non (nomark _)) (sw_or1 (st_tru (se_isiT rfl E.n_isinstance (pa_ty rfl E.n_bool PyProof.Rows.boot_bool (pa_ty rfl E.n_str PyProof.Rows.boot_str pa_nil)) (se_var (pv 1))))))) (sss_one (ss_ret (se_andT (se_cmp (op_eqD hu) opg_eq (se_var (pv 0)) (se_var (pv 1)) (nomark _)) (se_andT (se_cmp (op_eqD hu) opg_eq (se_isi1 rfl E.n_isinstance rfl E.n_bool PyProof.Rows.boot_bool (se_var (pv 0))) (se_isi1 rfl E.n_isinstance rfl E.n_bool PyProof.Rows.boot_bool (se_var (pv 1))) (nomark _)) (se_one (se_cmp (op_eqD hu) opg_eq (se_cmp op_isN opg_isN (se_var (pv 0)) se_non (nomark _)) (se_cmp op_isN opg_isN (se_var (pv 1)) se_non (nomark _)) (nomark _))))))) sss_nil)
      (sss_one (ss_ret (se_andT (se_isi1 rfl E.n_isinstance rfl E.n_int PyProof.Rows.boot_int (se_var (pv 0))) (se_andT (se_notT (se_isi1 rfl E.n_isinstance rfl E.n_bool PyProof.Rows.boot_bool (se_var (pv 0)))) (se_one (se_cmp (op_eqD hu) opg_eq (se_var (pv 0)) (se_var (pv 1)) (nomark _)))))))))

theorem ok__law_three (E : Env K mg) (F : FnP K "_law_three" s__law_three f fd) : FnOk P w K mg base CX0 1 f fd [] (spD K [] F__law_three) := by
  refine def_ok F sc__law_three rfl (by decide) fun cdv A outer s H X c hr => ?_
  have hu := hr.units
  have hu5 := room5 hr
  have hu1 := room1 hr
  exact (sss_one (ss_ret (se_tup (sa_cons (se_tup (sa_cons se_str (sa_cons se_str (sa_cons se_str sa_nil)))) (sa_cons (se_tup (sa_cons (se_tup (sa_cons (se_tup (sa_cons se_str (sa_cons se_bl sa_nil))) (sa_cons (se_tup (sa_cons se_str (sa_cons se_bl sa_nil))) sa_nil))) (sa_cons (se_tup (sa_cons (se_tup (sa_cons se_str (sa_cons se_bl sa_nil))) (sa_cons (se_tup (sa_cons se_str (sa_cons se_bl sa_nil))) sa_nil))) sa_nil))) sa_nil)))))

theorem ok__law_spots (E : Env K mg) (F : FnP K "_law_spots" s__law_spots f fd) : FnOk P w K mg base CX0 1 f fd ["_law_areas_so"] (spD K [false] F__law_spots) := by
  refine def_ok F sc__law_spots rfl (by decide) fun cdv A outer s H X c hr => ?_
  have hu := hr.units
  have hu5 := room5 hr
  have hu1 := room1 hr
  exact (sss_cons (ss_set sc__law_spots.nd rfl (Or.inl rfl) (se_lst (sa_cons (se_tup sa_nil) sa_nil)))
    (sss_cons (ss_for PassesOwn.never rfl (si_walk (se_var (pv 0))) (pg_name (i := 2) sc__law_spots.nd rfl (Or.inr rfl)) gok_name (sss_one (ss_set sc__law_spots.nd rfl (Or.inl rfl) (se_op op_plus opg_plus (se_var (pv 1)) (se_fl (sf_lc rfl sc__law_spots.nd (si_walk (se_var (pv 1))) (blkOk_by (own := [("_law_own", 3)]) (N := N__law_spots) (by kernel_rfl)) gok_name (by decide) (fun _ _ _ _ _ => (pg_name (i := 3) sc__law_spots.nd rfl (Or.inl rfl))) (fun _ _ _ _ _ _ => sts_nil) (fun _ _ _ _ _ _ => (se_op op_plus opg_plus (se_var (pv 3)) (se_tup (sa_cons (se_var (pv 2)) sa_nil))))))))))
    (sss_one (ss_ret (se_fl (sf_callB (cr_sortD hu) cg_sorted rfl E.n_sorted PyProof.Rows.boot_sorted (sa_cons (se_var (pv 1)) sa_nil)))))))

theorem ok_land_of (E : Env K mg) (F : FnP K "land_of" s_land_of f fd) : FnOk P w K mg base CX0 4 f fd ["chart", "cut"] (spD K [false, false] F_land_of) := by
  obtain ⟨f_let_spots, fd_let_spots, T_let_spots, g_let_spots⟩ := E.d_let_spots
  have G_let_spots := ok_let_spots (P := P) (w := w) (base := base) E T_let_spots
  have b_let_spots : Binds K fd_let_spots ["chart"] [] := T_let_spots.bindsN fun _ _ _ _ _ _ us hl => match us, hl with | [_], _ => rfl
  obtain ⟨f_is_in, fd_is_in, T_is_in, g_is_in⟩ := E.d_is_in
  have G_is_in := ok_is_in (P := P) (w := w) (base := base) E T_is_in
  have b_is_in : Binds K fd_is_in ["spot", "cut"] [] := T_is_in.bindsN fun _ _ _ _ _ _ us hl => match us, hl with | [_, _], _ => rfl
  refine def_ok F sc_land_of rfl (by decide) fun cdv A outer s H X c hr => ?_
  have hu := hr.units
  have hu5 := room5 hr
  have hu1 := room1 hr
  exact (sss_one (ss_ret (se_callTy call_tuple_of cg_tuple rfl E.n_tuple PyProof.Rows.boot_tuple (sa_cons (se_fl (sf_lc rfl sc_land_of.nd (si_walk (se_call G_let_spots (roomLe hr (by omega)) rfl g_let_spots T_let_spots.kp b_let_spots (sa_cons (se_var (pv 0)) sa_nil))) (blkOk_by (own := [("spot", 2)]) (N := N_land_of) (by kernel_rfl)) gok_name (by decide) (fun _ _ _ _ _ => (pg_name (i := 2) sc_land_of.nd rfl (Or.inl rfl))) (fun _ _ _ _ _ _ => (sts_one (st_tru (se_call G_is_in (roomLe hr (by omega)) rfl g_is_in T_is_in.kp b_is_in (sa_cons (se_var (pv 2)) (sa_cons (se_var (pv 1)) sa_nil)))))) (fun _ _ _ _ _ _ => (se_var (pv 2))))) sa_nil))))

theorem okr__law_lists (E : Env K mg) (F : FnP K "_law_lists" s__law_lists f fd) (g__law_lists : mg "_law_lists" = some (.ref f)) : ∀ n : Nat, FnOk P w K mg base CX0 (n + 1) f fd ["_law_matter_so"] (spD K [false] (F__law_lists n))
  | 0 => none_ok F sc__law_lists
  | n + 1 => by
    have G__law_lists := okr__law_lists E F g__law_lists n
    have T__law_lists := F
    have b__law_lists : Binds K fd ["_law_matter_so"] [] := F.bindsN fun _ _ _ _ _ _ us hl => match us, hl with | [_], _ => rfl
    refine def_ok F sc__law_lists rfl (by decide) fun cdv A outer s H X c hr => ?_
    have hu := hr.units
    have hu5 := room5 hr
    have hu1 := room1 hr
    exact (sss_one (ss_ret (se_if (st_tru (se_isiT rfl E.n_isinstance (pa_ty rfl E.n_list PyProof.Rows.boot_list (pa_ty rfl E.n_tuple PyProof.Rows.boot_tuple pa_nil)) (se_var (pv 0)))) (se_fl (sf_lc rfl sc__law_lists.nd (si_walk (se_var (pv 0))) (blkOk_by (own := [("_law_bit", 1)]) (N := N__law_lists) (by kernel_rfl)) gok_name (by decide) (fun _ _ _ _ _ => (pg_name (i := 1) sc__law_lists.nd rfl (Or.inl rfl))) (fun _ _ _ _ _ _ => sts_nil) (fun _ _ _ _ _ _ => (se_call G__law_lists (roomLe hr (by omega)) rfl g__law_lists T__law_lists.kp b__law_lists (sa_cons (se_var (pv 1)) sa_nil))))) (se_var (pv 0)))))

theorem ok__law_by_hand_right (E : Env K mg) (F : FnP K "_law_by_hand_right" s__law_by_hand_right f fd) : FnOk P w K mg base CX0 12 f fd [] (spD K [] F__law_by_hand_right) := by
  obtain ⟨f__law_three, fd__law_three, T__law_three, g__law_three⟩ := E.d__law_three
  have G__law_three := ok__law_three (P := P) (w := w) (base := base) E T__law_three
  have b__law_three : Binds K fd__law_three [] [] := T__law_three.bindsN fun _ _ _ _ _ _ us hl => match us, hl with | [], _ => rfl
  obtain ⟨f_plain_cut, fd_plain_cut, T_plain_cut, g_plain_cut⟩ := E.d_plain_cut
  have G_plain_cut := ok_plain_cut (P := P) (w := w) (base := base) E T_plain_cut
  have b_plain_cut : Binds K fd_plain_cut ["chart", "land"] [] := T_plain_cut.bindsN fun _ _ _ _ _ _ us hl => match us, hl with | [_, _], _ => rfl
  obtain ⟨f__law_spots, fd__law_spots, T__law_spots, g__law_spots⟩ := E.d__law_spots
  have G__law_spots := ok__law_spots (P := P) (w := w) (base := base) E T__law_spots
  have b__law_spots : Binds K fd__law_spots ["_law_areas_so"] [] := T__law_spots.bindsN fun _ _ _ _ _ _ us hl => match us, hl with | [_], _ => rfl
  obtain ⟨f_land_of, fd_land_of, T_land_of, g_land_of⟩ := E.d_land_of
  have G_land_of := ok_land_of (P := P) (w := w) (base := base) E T_land_of
  have b_land_of : Binds K fd_land_of ["chart", "cut"] [] := T_land_of.bindsN fun _ _ _ _ _ _ us hl => match us, hl with | [_, _], _ => rfl
  obtain ⟨f__law_lists, fd__law_lists, T__law_lists, g__law_lists⟩ := E.d__law_lists
  have G__law_lists := okr__law_lists (P := P) (w := w) (base := base) E T__law_lists g__law_lists 8
  have b__law_lists : Binds K fd__law_lists ["_law_matter_so"] [] := T__law_lists.bindsN fun _ _ _ _ _ _ us hl => match us, hl with | [_], _ => rfl
  obtain ⟨f__law_same, fd__law_same, T__law_same, g__law_same⟩ := E.d__law_same
  have G__law_same := okr__law_same (P := P) (w := w) (base := base) E T__law_same g__law_same 8
  have b__law_same : Binds K fd__law_same ["_law_got", "_law_due"] [] := T__law_same.bindsN fun _ _ _ _ _ _ us hl => match us, hl with | [_, _], _ => rfl
  have kb_plain_cut_1_0 : KwTo fd_plain_cut ["chart", "land"] ["land", "chart"] [1, 0] := kw_to T_plain_cut fun _ _ _ _ _ _ ws hl => match ws, hl with | [_, _], _ => rfl
  refine def_ok F sc__law_by_hand_right rfl (by decide) fun cdv A outer s H X c hr => ?_
  have hu := hr.units
  have hu5 := room5 hr
  have hu1 := room1 hr
  exact (sss_cons (ss_asg (se_tup (sa_cons (se_call0 G__law_three (roomLe hr (by omega)) rfl g__law_three T__law_three.kp b__law_three) (sa_cons (se_tup (sa_cons (se_tup (sa_cons se_str (sa_cons se_str sa_nil))) (sa_cons (se_tup sa_nil) sa_nil))) sa_nil))) (pg_seq rfl (pgs_cons (pg_name (i := 6) sc__law_by_hand_right.nd rfl (Or.inr rfl)) (pgs_cons (pg_name (i := 7) sc__law_by_hand_right.nd rfl (Or.inr rfl)) pgs_nil))) (gok_tup (gsok_cons gok_name (gsok_cons gok_name gsok_nil))))
    (sss_cons (ss_set sc__law_by_hand_right.nd rfl (Or.inl rfl) (se_lst (sa_cons (se_tup sa_nil) (sa_cons (se_tup (sa_cons (se_tup (sa_cons se_str (sa_cons se_str sa_nil))) sa_nil)) (sa_cons (se_tup (sa_cons (se_tup sa_nil) (sa_cons (se_tup (sa_cons se_str sa_nil)) sa_nil))) (sa_cons (se_tup (sa_cons (se_tup (sa_cons se_str sa_nil)) (sa_cons (se_tup (sa_cons se_str sa_nil)) sa_nil))) (sa_cons (se_tup (sa_cons (se_tup (sa_cons se_str (sa_cons se_str sa_nil))) (sa_cons (se_tup (sa_cons se_str sa_nil)) sa_nil))) sa_nil)))))))
    (sss_cons (ss_lcOwn rfl sc__law_by_hand_right.nd rfl rfl (sw_true rfl rfl rfl (by decide +kernel)) (si_walk (se_var (pv 0))) (blkOk_by (own := [("_law_own", 8)]) (N := N__law_by_hand_right) (by kernel_rfl)) gok_name (by decide) (fun _ _ _ _ _ => (pg_name (i := 8) sc__law_by_hand_right.nd rfl (Or.inl rfl))) (fun _ _ _ _ _ _ => sts_nil) (fun _ _ _ _ _ _ => (se_call G_plain_cut (roomLe hr (by omega)) rfl g_plain_cut T_plain_cut.kp b_plain_cut (sa_cons (se_var (pv 6)) (sa_cons (se_var (pv 8)) sa_nil)))))
    (sss_cons (ss_own sc__law_by_hand_right.nd rfl (Or.inl rfl) (sf_lst (sa_cons (se_tup sa_nil) (sa_cons (se_tup (sa_cons (se_tup (sa_cons (se_tup (sa_cons se_str (sa_cons se_bl sa_nil))) sa_nil)) sa_nil)) (sa_cons (se_tup (sa_cons (se_tup (sa_cons (se_tup (sa_cons se_str (sa_cons se_bl sa_nil))) (sa_cons (se_tup (sa_cons se_str (sa_cons se_bl sa_nil))) sa_nil))) sa_nil)) sa_nil)))))
    (sss_cons (ss_app (pv 2) (se_tup (sa_cons (se_tup (sa_cons (se_tup (sa_cons se_str (sa_cons se_bl sa_nil))) (sa_cons (se_tup (sa_cons se_str (sa_cons se_bl sa_nil))) (sa_cons (se_tup (sa_cons se_str (sa_cons se_bl sa_nil))) sa_nil)))) (sa_cons (se_tup (sa_cons (se_tup (sa_cons se_str (sa_cons se_bl sa_nil))) (sa_cons (se_tup (sa_cons se_str (sa_cons se_bl sa_nil))) (sa_cons (se_tup (sa_cons se_str (sa_cons se_bl sa_nil))) sa_nil)))) sa_nil))))
    (sss_cons (ss_app (pv 2) (se_tup (sa_cons (se_tup (sa_cons (se_tup (sa_cons se_str (sa_cons se_bl sa_nil))) (sa_cons (se_tup (sa_cons se_str (sa_cons se_bl sa_nil))) (sa_cons (se_tup (sa_cons se_str (sa_cons se_bl sa_nil))) sa_nil)))) (sa_cons (se_tup (sa_cons (se_tup (sa_cons se_str (sa_cons se_bl sa_nil))) (sa_cons (se_tup (sa_cons se_str (sa_cons se_bl sa_nil))) (sa_cons (se_tup (sa_cons se_str (sa_cons se_bl sa_nil))) sa_nil)))) sa_nil))))
    (sss_cons (ss_app (pv 1) (se_call G_plain_cut (roomLe hr (by omega)) rfl g_plain_cut T_plain_cut.kp b_plain_cut (sa_cons (se_var (pv 6)) (sa_cons (se_tup (sa_cons (se_tup sa_nil) (sa_cons (se_tup (sa_cons se_str (sa_cons se_str sa_nil))) (sa_cons (se_tup (sa_cons se_str sa_nil)) (sa_cons (se_tup (sa_cons se_str (sa_cons se_str sa_nil))) (sa_cons (se_tup (sa_cons se_str sa_nil)) sa_nil)))))) sa_nil))))
    (sss_cons (ss_app (pv 2) (se_tup (sa_cons (se_tup sa_nil) sa_nil)))
    (sss_cons (ss_set sc__law_by_hand_right.nd rfl (Or.inl rfl) (se_lst (sa_cons (se_tup (sa_cons (se_tup sa_nil) sa_nil)) (sa_cons (se_tup (sa_cons (se_tup (sa_cons se_str sa_nil)) (sa_cons (se_tup (sa_cons se_str (sa_cons se_str sa_nil))) sa_nil))) (sa_cons (se_tup (sa_cons (se_tup (sa_cons se_str (sa_cons se_str sa_nil))) (sa_cons (se_tup (sa_cons se_str sa_nil)) sa_nil))) (sa_cons (se_tup (sa_cons (se_tup (sa_cons se_str sa_nil)) (sa_cons (se_tup (sa_cons se_str sa_nil)) sa_nil))) sa_nil))))))
    (sss_cons (ss_own sc__law_by_hand_right.nd rfl (Or.inl rfl) (sf_op op_catL opg_cat (se_var (pv 1)) (se_fl (sf_lc rfl sc__law_by_hand_right.nd (si_walk (se_var (pv 0))) (blkOk_by (own := [("_law_own", 8)]) (N := N__law_by_hand_right) (by kernel_rfl)) gok_name (by decide) (fun _ _ _ _ _ => (pg_name (i := 8) sc__law_by_hand_right.nd rfl (Or.inl rfl))) (fun _ _ _ _ _ _ => sts_nil) (fun _ _ _ _ _ _ => (se_call G_plain_cut (roomLe hr (by omega)) rfl g_plain_cut T_plain_cut.kp b_plain_cut (sa_cons (se_var (pv 7)) (sa_cons (se_var (pv 8)) sa_nil))))))))
    (sss_cons (ss_own sc__law_by_hand_right.nd rfl (Or.inl rfl) (sf_op op_catL opg_cat (se_var (pv 2)) (se_lst (sa_cons (se_tup (sa_cons (se_tup (sa_cons (se_tup (sa_cons se_str (sa_cons se_bl sa_nil))) (sa_cons (se_tup (sa_cons se_str (sa_cons se_bl sa_nil))) sa_nil))) sa_nil)) (sa_cons (se_tup (sa_cons (se_tup (sa_cons (se_tup (sa_cons se_str (sa_cons se_bl sa_nil))) sa_nil)) sa_nil)) sa_nil)))))
    (sss_cons (ss_own sc__law_by_hand_right.nd rfl (Or.inl rfl) (sf_op op_catL opg_cat (se_var (pv 2)) (se_lst (sa_cons (se_tup (sa_cons (se_tup (sa_cons (se_tup (sa_cons se_str (sa_cons se_bl sa_nil))) (sa_cons (se_tup (sa_cons se_str (sa_cons se_bl sa_nil))) sa_nil))) (sa_cons (se_tup (sa_cons (se_tup (sa_cons se_str (sa_cons se_bl sa_nil))) (sa_cons (se_tup (sa_cons se_str (sa_cons se_bl sa_nil))) sa_nil))) sa_nil))) sa_nil))))
    (sss_cons (ss_app (pv 2) (se_tup (sa_cons (se_tup (sa_cons (se_tup (sa_cons se_str (sa_cons se_bl sa_nil))) (sa_cons (se_tup (sa_cons se_str (sa_cons se_bl sa_nil))) sa_nil))) (sa_cons (se_tup (sa_cons (se_tup (sa_cons se_str (sa_cons se_bl sa_nil))) (sa_cons (se_tup (sa_cons se_str (sa_cons se_bl sa_nil))) sa_nil))) sa_nil))))
    (sss_cons (ss_own sc__law_by_hand_right.nd rfl (Or.inl rfl) (sf_op op_catL opg_cat (se_var (pv 1)) (se_lst (sa_cons (se_call G_plain_cut (roomLe hr (by omega)) rfl g_plain_cut T_plain_cut.kp b_plain_cut (sa_cons (se_tup (sa_cons (se_tup sa_nil) (sa_cons (se_tup sa_nil) sa_nil))) (sa_cons (se_tup (sa_cons (se_tup sa_nil) sa_nil)) sa_nil))) (sa_cons (se_call G_plain_cut (roomLe hr (by omega)) rfl g_plain_cut T_plain_cut.kp b_plain_cut (sa_cons (se_tup (sa_cons (se_tup sa_nil) (sa_cons (se_tup sa_nil) sa_nil))) (sa_cons (se_tup sa_nil) sa_nil))) (sa_cons (se_call G_plain_cut (roomLe hr (by omega)) rfl g_plain_cut T_plain_cut.kp b_plain_cut (sa_cons (se_tup (sa_cons (se_tup sa_nil) (sa_cons (se_tup (sa_cons (se_tup sa_nil) sa_nil)) sa_nil))) (sa_cons (se_tup sa_nil) sa_nil))) sa_nil))))))
    (sss_cons (ss_own sc__law_by_hand_right.nd rfl (Or.inl rfl) (sf_op op_catL opg_cat (se_var (pv 2)) (se_lst (sa_cons (se_tup (sa_cons (se_tup sa_nil) sa_nil)) (sa_cons (se_tup sa_nil) (sa_cons (se_tup sa_nil) sa_nil))))))
    (sss_cons (ss_set sc__law_by_hand_right.nd rfl (Or.inl rfl) (se_tup (sa_cons (se_tup (sa_cons se_str (sa_cons se_str (sa_cons se_str (sa_cons se_str (sa_cons se_str sa_nil)))))) (sa_cons (se_tup sa_nil) sa_nil))))
    (sss_cons (ss_set sc__law_by_hand_right.nd rfl (Or.inl rfl) (se_callTy call_tuple_of cg_tuple rfl E.n_tuple PyProof.Rows.boot_tuple (sa_cons (se_fl (sf_lc rfl sc__law_by_hand_right.nd (si_walk (se_call G__law_spots (roomLe hr (by omega)) rfl g__law_spots T__law_spots.kp b__law_spots (sa_cons (se_ix ix_two opg_ix (se_var (pv 3)) se_int (fun _ _ => rfl)) sa_nil))) (blkOk_by (own := [("_law_own", 8)]) (N := N__law_by_hand_right) (by kernel_rfl)) gok_name (by decide) (fun _ _ _ _ _ => (pg_name (i := 8) sc__law_by_hand_right.nd rfl (Or.inl rfl))) (fun _ _ _ _ _ _ => (sts_one (st_cmp (op_neD hu) opg_ne (se_var (pv 8)) (se_tup (sa_cons se_str (sa_cons se_str (sa_cons se_str (sa_cons se_str (sa_cons se_str sa_nil)))))) (nomark _)))) (fun _ _ _ _ _ _ => (se_var (pv 8))))) sa_nil)))
    (sss_cons (ss_set sc__law_by_hand_right.nd rfl (Or.inl rfl) (se_call G_plain_cut (roomLe hr (by omega)) rfl g_plain_cut T_plain_cut.kp b_plain_cut (sa_cons (se_var (pv 3)) (sa_cons (se_var (pv 4)) sa_nil))))
    (sss_cons (ss_own sc__law_by_hand_right.nd rfl (Or.inl rfl) (sf_op op_catL opg_cat (se_var (pv 1)) (se_lst (sa_cons (se_callB call_lenA cg_len rfl E.n_len PySem.boot_len (sa_cons (se_var (pv 5)) sa_nil)) (sa_cons (se_ix ix_two opg_ix (se_var (pv 5)) se_int (fun _ _ => rfl)) (sa_cons (se_ix ix_two opg_ix (se_var (pv 5)) (se_neg se_int) (fun _ _ => rfl)) (sa_cons (se_cmp (op_eqD hu) opg_eq (se_call G_land_of (roomLe hr (by omega)) rfl g_land_of T_land_of.kp b_land_of (sa_cons (se_var (pv 3)) (sa_cons (se_var (pv 5)) sa_nil))) (se_var (pv 4)) (nomark _)) sa_nil)))))))
    (sss_cons (ss_own sc__law_by_hand_right.nd rfl (Or.inl rfl) (sf_op op_catL opg_cat (se_var (pv 2)) (se_lst (sa_cons se_int (sa_cons (se_tup (sa_cons (se_tup (sa_cons se_str (sa_cons se_bl sa_nil))) sa_nil)) (sa_cons (se_tup (sa_cons (se_tup (sa_cons se_str (sa_cons se_bl sa_nil))) (sa_cons (se_tup (sa_cons se_str (sa_cons se_bl sa_nil))) (sa_cons (se_tup (sa_cons se_str (sa_cons se_bl sa_nil))) (sa_cons (se_tup (sa_cons se_str (sa_cons se_bl sa_nil))) (sa_cons (se_tup (sa_cons se_str (sa_cons se_bl sa_nil))) sa_nil)))))) (sa_cons se_bl sa_nil)))))))
    (sss_cons (ss_app (pv 1) (se_callKw G_plain_cut (roomLe hr (by omega)) rfl g_plain_cut T_plain_cut.kp kb_plain_cut_1_0 (sk_cons (se_lst (sa_cons (se_lst (sa_cons se_str (sa_cons se_str sa_nil))) (sa_cons (se_lst (sa_cons se_str sa_nil)) sa_nil))) (sk_cons (se_call G__law_lists (roomLe hr (by omega)) rfl g__law_lists T__law_lists.kp b__law_lists (sa_cons (se_var (pv 6)) sa_nil)) sk_nil))))
    (sss_one (ss_ret (se_call G__law_same (roomLe hr (by omega)) rfl g__law_same T__law_same.kp b__law_same (sa_cons (se_var (pv 1)) (sa_cons (se_op op_plus opg_plus (se_var (pv 2)) (se_lst (sa_cons (se_tup (sa_cons (se_tup (sa_cons (se_tup (sa_cons se_str (sa_cons se_bl sa_nil))) (sa_cons (se_tup (sa_cons se_str (sa_cons se_bl sa_nil))) (sa_cons (se_tup (sa_cons se_str (sa_cons se_bl sa_nil))) sa_nil)))) (sa_cons (se_tup (sa_cons (se_tup (sa_cons se_str (sa_cons se_bl sa_nil))) (sa_cons (se_tup (sa_cons se_str (sa_cons se_bl sa_nil))) (sa_cons (se_tup (sa_cons se_str (sa_cons se_bl sa_nil))) sa_nil)))) sa_nil))) sa_nil))) sa_nil))))))))))))))))))))))))))

theorem ok__law_take (E : Env K mg) (F : FnP K "_law_take" s__law_take f fd) : FnOk P w K mg base CX0 1 f fd ["_law_box_here", "_law_below_so"] (spD K [true, false] F__law_take) := by
  refine def_ok F sc__law_take rfl (by decide) fun cdv A outer s H X c hr => ?_
  have hu := hr.units
  have hu5 := room5 hr
  have hu1 := room1 hr
  exact (sss_cons (ss_if (st_cmp (op_gtA hu) opg_gtA (se_ix ix_two opg_ix (se_var (pv 0)) se_int (fun _ _ => rfl)) se_int (nomark _)) (sss_cons (ss_set sc__law_take.nd rfl (Or.inl rfl) (se_op op_mod opg_mod (se_callTy call_int1 cg_int rfl E.n_int PyProof.Rows.boot_int (sa_cons (se_ix ix_two opg_ix (se_var (pv 0)) se_int (fun _ _ => rfl)) sa_nil)) (se_var (pv 1))))
    (sss_cons (ss_put hu1 (pv 0) se_int (se_op op_fdivW opg_div (se_ix ix_two opg_ix (se_var (pv 0)) se_int (fun _ _ => rfl)) (se_var (pv 1))))
    (sss_one (ss_ret (se_var (pv 5)))))) sss_nil)
    (sss_cons (ss_put hu1 (pv 0) se_int (se_op op_plus opg_plus (se_ix ix_two opg_ix (se_var (pv 0)) se_int (fun _ _ => rfl)) se_int))
    (sss_cons (ss_set sc__law_take.nd rfl (Or.inl rfl) (se_op op_mod opg_mod (se_callTy call_int1 cg_int rfl E.n_int PyProof.Rows.boot_int (sa_cons (se_op op_mul opg_mul (se_op op_plus opg_plus (se_ix ix_two opg_ix (se_var (pv 0)) se_int (fun _ _ => rfl)) (se_op op_mul opg_mul se_int (se_ix ix_two opg_ix (se_var (pv 0)) se_int (fun _ _ => rfl)))) (se_op op_plus opg_plus se_int (se_ix ix_two opg_ix (se_var (pv 0)) se_int (fun _ _ => rfl)))) sa_nil)) se_int))
    (sss_cons (ss_set sc__law_take.nd rfl (Or.inl rfl) (se_op op_plus opg_plus (se_op op_mod opg_mod (se_callTy call_int1 cg_int rfl E.n_int PyProof.Rows.boot_int (sa_cons (se_var (pv 2)) sa_nil)) se_int) se_int))
    (sss_cons (ss_set sc__law_take.nd rfl (Or.inl rfl) (se_op op_mod opg_mod (se_callTy call_int1 cg_int rfl E.n_int PyProof.Rows.boot_int (sa_cons (se_op op_mul opg_mul (se_op op_plus opg_plus (se_op op_plus opg_plus (se_var (pv 2)) (se_ix ix_two opg_ix (se_var (pv 0)) se_int (fun _ _ => rfl))) (se_op op_fdivW opg_div (se_ix ix_two opg_ix (se_var (pv 0)) se_int (fun _ _ => rfl)) se_int)) (se_var (pv 3))) sa_nil)) se_int))
    (sss_one (ss_ret (se_op op_mod opg_mod (se_callTy call_int1 cg_int rfl E.n_int PyProof.Rows.boot_int (sa_cons (se_op op_fdivW opg_div (se_op op_mod opg_mod (se_callTy call_int1 cg_int rfl E.n_int PyProof.Rows.boot_int (sa_cons (se_op op_plus opg_plus (se_op op_mul opg_mul (se_var (pv 4)) se_int) (se_var (pv 2))) sa_nil)) se_int) se_int) sa_nil)) (se_var (pv 1))))))))))

theorem ok__law_clause (E : Env K mg) (F : FnP K "_law_clause" s__law_clause f fd) : FnOk P w K mg base CX0 2 f fd ["_law_box_here", "_law_areas_so"] (spD K [true, false] F__law_clause) := by
  obtain ⟨f__law_take, fd__law_take, T__law_take, g__law_take⟩ := E.d__law_take
  have G__law_take := ok__law_take (P := P) (w := w) (base := base) E T__law_take
  have b__law_take : Binds K fd__law_take ["_law_box_here", "_law_below_so"] [] := T__law_take.bindsN fun _ _ _ _ _ _ us hl => match us, hl with | [_, _], _ => rfl
  refine def_ok F sc__law_clause rfl (by decide) fun cdv A outer s H X c hr => ?_
  have hu := hr.units
  have hu5 := room5 hr
  have hu1 := room1 hr
  exact (sss_cons (ss_lcSet rfl sc__law_clause.nd rfl rfl (sw_true rfl rfl rfl (by decide +kernel)) (si_walk (se_var (pv 1))) (blkOk_by (own := [("_law_tag", 3)]) (N := N__law_clause) (by kernel_rfl)) gok_name (by decide) (fun _ _ _ _ _ => (pg_name (i := 3) sc__law_clause.nd rfl (Or.inl rfl))) (fun _ _ _ _ _ _ => sts_nil) (fun _ _ _ _ _ _ => (se_tup (sa_cons (se_var (pv 3)) (sa_cons (se_call G__law_take (roomLe hr (by omega)) rfl g__law_take T__law_take.kp b__law_take (sa_cons (se_var (pv 0)) (sa_cons se_int sa_nil))) sa_nil)))))
    (sss_one (ss_ret (se_callTy call_tuple_of cg_tuple rfl E.n_tuple PyProof.Rows.boot_tuple (sa_cons (se_fl (sf_lc rfl sc__law_clause.nd (si_walk (se_var (pv 2))) (blkOk_by (own := [("_law_tag", 3), ("_law_way_so", 4)]) (N := N__law_clause) (by kernel_rfl)) (gok_tup (gsok_cons gok_name (gsok_cons gok_name gsok_nil))) (by decide) (fun _ _ _ _ _ => (pg_seq rfl (pgs_cons (pg_name (i := 3) sc__law_clause.nd rfl (Or.inl rfl)) (pgs_cons (pg_name (i := 4) sc__law_clause.nd rfl (Or.inl rfl)) pgs_nil)))) (fun _ _ _ _ _ _ => (sts_one (st_cmp (op_ltA hu) opg_ltA (se_var (pv 4)) se_int (nomark _)))) (fun _ _ _ _ _ _ => (se_tup (sa_cons (se_var (pv 3)) (sa_cons (se_cmp (op_eqD hu) opg_eq (se_var (pv 4)) se_int (nomark _)) sa_nil)))))) sa_nil)))))

theorem ok__law_of (E : Env K mg) (F : FnP K "_law_of" s__law_of f fd) : FnOk P w K mg base CX0 2 f fd ["_law_box_here", "_law_pool_so"] (spD K [true, false] F__law_of) := by
  obtain ⟨f__law_take, fd__law_take, T__law_take, g__law_take⟩ := E.d__law_take
  have G__law_take := ok__law_take (P := P) (w := w) (base := base) E T__law_take
  have b__law_take : Binds K fd__law_take ["_law_box_here", "_law_below_so"] [] := T__law_take.bindsN fun _ _ _ _ _ _ us hl => match us, hl with | [_, _], _ => rfl
  refine def_ok F sc__law_of rfl (by decide) fun cdv A outer s H X c hr => ?_
  have hu := hr.units
  have hu5 := room5 hr
  have hu1 := room1 hr
  exact (sss_one (ss_ret (se_ix ix_two opg_ix (se_var (pv 1)) (se_call G__law_take (roomLe hr (by omega)) rfl g__law_take T__law_take.kp b__law_take (sa_cons (se_var (pv 0)) (sa_cons (se_callB call_lenA cg_len rfl E.n_len PySem.boot_len (sa_cons (se_var (pv 1)) sa_nil)) sa_nil))) (fun _ _ => rfl))))

theorem ok__law_chart (E : Env K mg) (F : FnP K "_law_chart" s__law_chart f fd) : FnOk P w K mg base CX0 3 f fd ["_law_box_here", "_law_many_so"] (spD K [true, false] F__law_chart) := by
  obtain ⟨f__law_of, fd__law_of, T__law_of, g__law_of⟩ := E.d__law_of
  have G__law_of := ok__law_of (P := P) (w := w) (base := base) E T__law_of
  have b__law_of : Binds K fd__law_of ["_law_box_here", "_law_pool_so"] [] := T__law_of.bindsN fun _ _ _ _ _ _ us hl => match us, hl with | [_, _], _ => rfl
  obtain ⟨f__law_take, fd__law_take, T__law_take, g__law_take⟩ := E.d__law_take
  have G__law_take := ok__law_take (P := P) (w := w) (base := base) E T__law_take
  have b__law_take : Binds K fd__law_take ["_law_box_here", "_law_below_so"] [] := T__law_take.bindsN fun _ _ _ _ _ _ us hl => match us, hl with | [_, _], _ => rfl
  obtain ⟨f__law_clause, fd__law_clause, T__law_clause, g__law_clause⟩ := E.d__law_clause
  have G__law_clause := ok__law_clause (P := P) (w := w) (base := base) E T__law_clause
  have b__law_clause : Binds K fd__law_clause ["_law_box_here", "_law_areas_so"] [] := T__law_clause.bindsN fun _ _ _ _ _ _ us hl => match us, hl with | [_, _], _ => rfl
  refine def_ok F sc__law_chart rfl (by decide) fun cdv A outer s H X c hr => ?_
  have hu := hr.units
  have hu5 := room5 hr
  have hu1 := room1 hr
  exact (sss_cons (ss_set sc__law_chart.nd rfl (Or.inr rfl) (se_fl (sf_callB (cr_sortD hu) cg_sorted rfl E.n_sorted PyProof.Rows.boot_sorted (sa_cons (se_slice (se_lst (sa_cons se_str (sa_cons se_str (sa_cons se_str (sa_cons se_str (sa_cons se_str sa_nil)))))) so_none (so_some (se_callB (call_max2 rfl) cg_2i rfl E.n_max PyProof.Rows.boot_max (sa_cons se_int (sa_cons (se_op op_sub opg_sub (se_var (pv 1)) (se_call G__law_of (roomLe hr (by omega)) rfl g__law_of T__law_of.kp b__law_of (sa_cons (se_var (pv 0)) (sa_cons (se_lst (sa_cons se_int (sa_cons se_int (sa_cons se_int (sa_cons se_int (sa_cons se_int (sa_cons se_int (sa_cons se_int (sa_cons se_int sa_nil))))))))) sa_nil)))) sa_nil))))) sa_nil))))
    (sss_cons (ss_lcSet rfl sc__law_chart.nd rfl rfl (sw_true rfl rfl rfl (by decide +kernel)) (si_range1 rfl E.n_range (sa_cons (se_call G__law_take (roomLe hr (by omega)) rfl g__law_take T__law_take.kp b__law_take (sa_cons (se_var (pv 0)) (sa_cons se_int sa_nil))) sa_nil)) (blkOk_by (own := [("_law_turn", 4)]) (N := N__law_chart) (by kernel_rfl)) gok_name (by decide) (fun _ _ _ _ _ => (pg_name (i := 4) sc__law_chart.nd rfl (Or.inl rfl))) (fun _ _ _ _ _ _ => sts_nil) (fun _ _ _ _ _ _ => (se_call G__law_clause (roomLe hr (by omega)) rfl g__law_clause T__law_clause.kp b__law_clause (sa_cons (se_var (pv 0)) (sa_cons (se_var (pv 2)) sa_nil)))))
    (sss_cons (ss_lcSet rfl sc__law_chart.nd rfl rfl (sw_true rfl rfl rfl (by decide +kernel)) (si_walk (se_var (pv 3))) (blkOk_by (own := [("_law_own", 5)]) (N := N__law_chart) (by kernel_rfl)) gok_name (by decide) (fun _ _ _ _ _ => (pg_name (i := 5) sc__law_chart.nd rfl (Or.inl rfl))) (fun _ _ _ _ _ _ => (sts_one (st_cmp (op_geA hu) opg_geA (se_callB call_lenA cg_len rfl E.n_len PySem.boot_len (sa_cons (se_var (pv 5)) sa_nil)) (se_call G__law_of (roomLe hr (by omega)) rfl g__law_of T__law_of.kp b__law_of (sa_cons (se_var (pv 0)) (sa_cons (se_lst (sa_cons se_int (sa_cons se_int (sa_cons se_int (sa_cons se_int (sa_cons se_int (sa_cons se_int sa_nil))))))) sa_nil))) (nomark _)))) (fun _ _ _ _ _ _ => (se_var (pv 5))))
    (sss_one (ss_ret (se_tup (sa_cons (se_callTy call_tuple_of cg_tuple rfl E.n_tuple PyProof.Rows.boot_tuple (sa_cons (se_var (pv 2)) sa_nil)) (sa_cons (se_callTy call_tuple_of cg_tuple rfl E.n_tuple PyProof.Rows.boot_tuple (sa_cons (se_fl (sf_sortset rfl hu rfl E.n_sorted rfl E.n_set (se_var (pv 3)))) sa_nil)) sa_nil))))))))

theorem ok__law_in (E : Env K mg) (F : FnP K "_law_in" s__law_in f fd) : FnOk P w K mg base CX0 1 f fd ["_law_spot_so", "_law_cut_so"] (spD K [false, false] F__law_in) := by
  refine def_ok F sc__law_in rfl (by decide) fun cdv A outer s H X c hr => ?_
  have hu := hr.units
  have hu5 := room5 hr
  have hu1 := room1 hr
  exact (sss_cons (ss_for PassesOwn.never rfl (si_walk (se_var (pv 1))) (pg_name (i := 2) sc__law_in.nd rfl (Or.inl rfl)) gok_name (sss_one (ss_if (st_cmp (op_eqD hu) opg_eq (se_fl (sf_lc rfl sc__law_in.nd (si_walk (se_var (pv 2))) (blkOk_by (own := [("_law_tag", 3), ("_law_side_so", 4)]) (N := N__law_in) (by kernel_rfl)) (gok_tup (gsok_cons gok_name (gsok_cons gok_name gsok_nil))) (by decide) (fun _ _ _ _ _ => (pg_seq rfl (pgs_cons (pg_name (i := 3) sc__law_in.nd rfl (Or.inl rfl)) (pgs_cons (pg_name (i := 4) sc__law_in.nd rfl (Or.inl rfl)) pgs_nil)))) (fun _ _ _ _ _ _ => (sts_one (st_cmp (op_neD hu) opg_ne (se_cmp (op_inB hu5) opg_inB (se_var (pv 3)) (se_var (pv 0)) rfl) (se_var (pv 4)) (nomark _)))) (fun _ _ _ _ _ _ => (se_var (pv 3))))) (se_lst sa_nil) (nomark _)) (sss_one (ss_ret se_bl)) sss_nil)))
    (sss_one (ss_ret se_bl)))

theorem ok__law_let (E : Env K mg) (F : FnP K "_law_let" s__law_let f fd) : FnOk P w K mg base CX0 2 f fd ["_law_chart_so"] (spD K [false] F__law_let) := by
  obtain ⟨f__law_spots, fd__law_spots, T__law_spots, g__law_spots⟩ := E.d__law_spots
  have G__law_spots := ok__law_spots (P := P) (w := w) (base := base) E T__law_spots
  have b__law_spots : Binds K fd__law_spots ["_law_areas_so"] [] := T__law_spots.bindsN fun _ _ _ _ _ _ us hl => match us, hl with | [_], _ => rfl
  obtain ⟨f__law_in, fd__law_in, T__law_in, g__law_in⟩ := E.d__law_in
  have G__law_in := ok__law_in (P := P) (w := w) (base := base) E T__law_in
  have b__law_in : Binds K fd__law_in ["_law_spot_so", "_law_cut_so"] [] := T__law_in.bindsN fun _ _ _ _ _ _ us hl => match us, hl with | [_, _], _ => rfl
  refine def_ok F sc__law_let rfl (by decide) fun cdv A outer s H X c hr => ?_
  have hu := hr.units
  have hu5 := room5 hr
  have hu1 := room1 hr
  exact (sss_one (ss_ret (se_fl (sf_lc rfl sc__law_let.nd (si_walk (se_call G__law_spots (roomLe hr (by omega)) rfl g__law_spots T__law_spots.kp b__law_spots (sa_cons (se_ix ix_two opg_ix (se_var (pv 0)) se_int (fun _ _ => rfl)) sa_nil))) (blkOk_by (own := [("_law_own", 1)]) (N := N__law_let) (by kernel_rfl)) gok_name (by decide) (fun _ _ _ _ _ => (pg_name (i := 1) sc__law_let.nd rfl (Or.inl rfl))) (fun _ _ _ _ _ _ => (sts_one (st_not (st_tru (se_call G__law_in (roomLe hr (by omega)) rfl g__law_in T__law_in.kp b__law_in (sa_cons (se_var (pv 1)) (sa_cons (se_ix ix_two opg_ix (se_var (pv 0)) se_int (fun _ _ => rfl)) sa_nil))))))) (fun _ _ _ _ _ _ => (se_var (pv 1)))))))

theorem ok__law_land (E : Env K mg) (F : FnP K "_law_land" s__law_land f fd) : FnOk P w K mg base CX0 3 f fd ["_law_chart_so", "_law_cut_so"] (spD K [false, false] F__law_land) := by
  obtain ⟨f__law_let, fd__law_let, T__law_let, g__law_let⟩ := E.d__law_let
  have G__law_let := ok__law_let (P := P) (w := w) (base := base) E T__law_let
  have b__law_let : Binds K fd__law_let ["_law_chart_so"] [] := T__law_let.bindsN fun _ _ _ _ _ _ us hl => match us, hl with | [_], _ => rfl
  obtain ⟨f__law_in, fd__law_in, T__law_in, g__law_in⟩ := E.d__law_in
  have G__law_in := ok__law_in (P := P) (w := w) (base := base) E T__law_in
  have b__law_in : Binds K fd__law_in ["_law_spot_so", "_law_cut_so"] [] := T__law_in.bindsN fun _ _ _ _ _ _ us hl => match us, hl with | [_, _], _ => rfl
  refine def_ok F sc__law_land rfl (by decide) fun cdv A outer s H X c hr => ?_
  have hu := hr.units
  have hu5 := room5 hr
  have hu1 := room1 hr
  exact (sss_one (ss_ret (se_callTy call_tuple_of cg_tuple rfl E.n_tuple PyProof.Rows.boot_tuple (sa_cons (se_fl (sf_lc rfl sc__law_land.nd (si_walk (se_call G__law_let (roomLe hr (by omega)) rfl g__law_let T__law_let.kp b__law_let (sa_cons (se_var (pv 0)) sa_nil))) (blkOk_by (own := [("_law_own", 2)]) (N := N__law_land) (by kernel_rfl)) gok_name (by decide) (fun _ _ _ _ _ => (pg_name (i := 2) sc__law_land.nd rfl (Or.inl rfl))) (fun _ _ _ _ _ _ => (sts_one (st_tru (se_call G__law_in (roomLe hr (by omega)) rfl g__law_in T__law_in.kp b__law_in (sa_cons (se_var (pv 2)) (sa_cons (se_var (pv 1)) sa_nil)))))) (fun _ _ _ _ _ _ => (se_var (pv 2))))) sa_nil))))

theorem okr__law_parted (E : Env K mg) (F : FnP K "_law_parted" s__law_parted f fd) (g__law_parted : mg "_law_parted" = some (.ref f)) : ∀ n : Nat, FnOk P w K mg base CX0 (n + 1) f fd ["_law_areas_so", "_law_spots_so", "_law_land_so", "_law_clause_so"] (spD K [false, false, false, false] (F__law_parted n))
  | 0 => none_ok F sc__law_parted
  | n + 1 => by
    have G__law_parted := okr__law_parted E F g__law_parted n
    have T__law_parted := F
    have b__law_parted : Binds K fd ["_law_areas_so", "_law_spots_so", "_law_land_so", "_law_clause_so"] [] := F.bindsN fun _ _ _ _ _ _ us hl => match us, hl with | [_, _, _, _], _ => rfl
    refine def_ok F sc__law_parted rfl (by decide) fun cdv A outer s H X c hr => ?_
    have hu := hr.units
    have hu5 := room5 hr
    have hu1 := room1 hr
    exact (sss_cons (ss_lcSet rfl sc__law_parted.nd rfl rfl (sw_true rfl rfl rfl (by decide +kernel)) (si_walk (se_var (pv 1))) (blkOk_by (own := [("_law_own", 8)]) (N := N__law_parted) (by kernel_rfl)) gok_name (by decide) (fun _ _ _ _ _ => (pg_name (i := 8) sc__law_parted.nd rfl (Or.inl rfl))) (fun _ _ _ _ _ _ => (sts_one (st_cmp (op_inB hu5) opg_inB (se_var (pv 8)) (se_var (pv 2)) rfl))) (fun _ _ _ _ _ _ => (se_var (pv 8))))
      (sss_cons (ss_if (st_cmp (op_eqD hu) opg_eq (se_var (pv 4)) (se_lst sa_nil) (nomark _)) (sss_one (ss_ret (se_lst sa_nil))) sss_nil)
      (sss_cons (ss_if (st_cmp (op_eqD hu) opg_eq (se_var (pv 4)) (se_var (pv 1)) (nomark _)) (sss_one (ss_ret (se_lst (sa_cons (se_var (pv 3)) sa_nil)))) sss_nil)
      (sss_cons (ss_set sc__law_parted.nd rfl (Or.inl rfl) (se_lst sa_nil))
      (sss_cons (ss_for PassesOwn.never rfl (si_walk (se_tup (sa_cons se_bl (sa_cons se_bl sa_nil)))) (pg_name (i := 6) sc__law_parted.nd rfl (Or.inr rfl)) gok_name (sss_cons (ss_lcSet rfl sc__law_parted.nd rfl rfl (sw_true rfl rfl rfl (by decide +kernel)) (si_walk (se_var (pv 1))) (blkOk_by (own := [("_law_own", 8)]) (N := N__law_parted) (by kernel_rfl)) gok_name (by decide) (fun _ _ _ _ _ => (pg_name (i := 8) sc__law_parted.nd rfl (Or.inl rfl))) (fun _ _ _ _ _ _ => (sts_one (st_cmp (op_eqD hu) opg_eq (se_cmp (op_inB hu5) opg_inB (se_ix ix_two opg_ix (se_var (pv 0)) se_int (fun _ _ => rfl)) (se_var (pv 8)) rfl) (se_var (pv 6)) (nomark _)))) (fun _ _ _ _ _ _ => (se_var (pv 8))))
      (sss_one (ss_set sc__law_parted.nd rfl (Or.inl rfl) (se_op op_plus opg_plus (se_var (pv 5)) (se_call G__law_parted (roomLe hr (by omega)) rfl g__law_parted T__law_parted.kp b__law_parted (sa_cons (se_slice (se_var (pv 0)) (so_some se_int) so_none) (sa_cons (se_var (pv 7)) (sa_cons (se_var (pv 2)) (sa_cons (se_op op_plus opg_plus (se_var (pv 3)) (se_tup (sa_cons (se_tup (sa_cons (se_ix ix_two opg_ix (se_var (pv 0)) se_int (fun _ _ => rfl)) (sa_cons (se_var (pv 6)) sa_nil))) sa_nil))) sa_nil))))))))))
      (sss_one (ss_ret (se_var (pv 5)))))))))

theorem ok_lookup (E : Env K mg) (F : FnP K "lookup" s_lookup f fd) : FnOk P w K mg base CX0 1 f fd ["areas"] (spD K [false] F_lookup) := by
  refine def_ok F sc_lookup rfl (by decide) fun cdv A outer s H X c hr => ?_
  have hu := hr.units
  have hu5 := room5 hr
  have hu1 := room1 hr
  exact (sss_one (ss_ret (se_fd (sd_dc rfl sc_lookup.nd (si_walk (se_var (pv 0))) (blkOk_by (own := [("name", 1)]) (N := N_lookup) (by kernel_rfl)) gok_name (by decide) (fun _ _ _ _ _ => (pg_name (i := 1) sc_lookup.nd rfl (Or.inl rfl))) (fun _ _ _ _ _ _ => sts_nil) (fun _ _ _ _ _ _ => (se_var (pv 1))) (fun _ _ _ _ _ _ => se_bl)))))

theorem ok_is_ascending (E : Env K mg) (F : FnP K "is_ascending" s_is_ascending f fd) : FnOk P w K mg base CX0 1 f fd ["row"] (spD K [false] F_is_ascending) := by
  refine def_ok F sc_is_ascending rfl (by decide) fun cdv A outer s H X c hr => ?_
  have hu := hr.units
  have hu5 := room5 hr
  have hu1 := room1 hr
  exact (sss_one (ss_ret (se_callB (cr_all rfl) cg_all rfl E.n_all PyProof.Rows.boot_all (sa_cons (se_fl (sf_lc rfl sc_is_ascending.nd (si_range1 rfl E.n_range (sa_cons (se_op op_sub opg_sub (se_callB call_lenA cg_len rfl E.n_len PySem.boot_len (sa_cons (se_var (pv 0)) sa_nil)) se_int) sa_nil)) (blkOk_by (own := [("at", 1)]) (N := N_is_ascending) (by kernel_rfl)) gok_name (by decide) (fun _ _ _ _ _ => (pg_name (i := 1) sc_is_ascending.nd rfl (Or.inl rfl))) (fun _ _ _ _ _ _ => sts_nil) (fun _ _ _ _ _ _ => (se_cmp (op_ltA hu) opg_ltA (se_ix ix_two opg_ix (se_var (pv 0)) (se_var (pv 1)) (fun _ _ => rfl)) (se_ix ix_two opg_ix (se_var (pv 0)) (se_op op_plus opg_plus (se_var (pv 1)) se_int) (fun _ _ => rfl)) (nomark _))))) sa_nil))))

theorem ok_is_row (E : Env K mg) (F : FnP K "is_row" s_is_row f fd) : FnOk P w K mg base CX0 1 f fd ["thing", "many"] (spD K [false, false] F_is_row) := by
  refine def_ok F sc_is_row rfl (by decide) fun cdv A outer s H X c hr => ?_
  have hu := hr.units
  have hu5 := room5 hr
  have hu1 := room1 hr
  exact (sss_one (ss_ret (se_andT (se_isi1 rfl E.n_isinstance rfl E.n_tuple PyProof.Rows.boot_tuple (se_var (pv 0))) (se_one (se_cmp (op_eqD hu) opg_eq (se_callB call_lenA cg_len rfl E.n_len PySem.boot_len (sa_cons (se_var (pv 0)) sa_nil)) (se_var (pv 1)) (nomark _))))))

theorem ok_is_side (E : Env K mg) (F : FnP K "is_side" s_is_side f fd) : FnOk P w K mg base CX0 2 f fd ["known", "thing"] (spD K [false, false] F_is_side) := by
  obtain ⟨f_is_row, fd_is_row, T_is_row, g_is_row⟩ := E.d_is_row
  have G_is_row := ok_is_row (P := P) (w := w) (base := base) E T_is_row
  have b_is_row : Binds K fd_is_row ["thing", "many"] [] := T_is_row.bindsN fun _ _ _ _ _ _ us hl => match us, hl with | [_, _], _ => rfl
  refine def_ok F sc_is_side rfl (by decide) fun cdv A outer s H X c hr => ?_
  have hu := hr.units
  have hu5 := room5 hr
  have hu1 := room1 hr
  exact (sss_cons (ss_if (st_not (st_tru (se_call G_is_row (roomLe hr (by omega)) rfl g_is_row T_is_row.kp b_is_row (sa_cons (se_var (pv 1)) (sa_cons se_int sa_nil))))) (sss_one (ss_ret se_bl)) sss_nil)
    (sss_cons (ss_asg (se_var (pv 1)) (pg_seq rfl (pgs_cons (pg_name (i := 2) sc_is_side.nd rfl (Or.inl rfl)) (pgs_cons (pg_name (i := 3) sc_is_side.nd rfl (Or.inl rfl)) pgs_nil))) (gok_tup (gsok_cons gok_name (gsok_cons gok_name gsok_nil))))
    (sss_one (ss_ret (se_andT (se_isi1 rfl E.n_isinstance rfl E.n_str PyProof.Rows.boot_str (se_var (pv 2))) (se_andT (se_cmp (op_inB hu5) opg_inB (se_var (pv 2)) (se_var (pv 0)) rfl) (se_one (se_isi1 rfl E.n_isinstance rfl E.n_bool PyProof.Rows.boot_bool (se_var (pv 3))))))))))

theorem ok_is_condition_over (E : Env K mg) (F : FnP K "is_condition_over" s_is_condition_over f fd) : FnOk P w K mg base CX0 3 f fd ["known", "thing"] (spD K [false, false] F_is_condition_over) := by
  obtain ⟨f_is_side, fd_is_side, T_is_side, g_is_side⟩ := E.d_is_side
  have G_is_side := ok_is_side (P := P) (w := w) (base := base) E T_is_side
  have b_is_side : Binds K fd_is_side ["known", "thing"] [] := T_is_side.bindsN fun _ _ _ _ _ _ us hl => match us, hl with | [_, _], _ => rfl
  obtain ⟨f_is_ascending, fd_is_ascending, T_is_ascending, g_is_ascending⟩ := E.d_is_ascending
  have G_is_ascending := ok_is_ascending (P := P) (w := w) (base := base) E T_is_ascending
  have b_is_ascending : Binds K fd_is_ascending ["row"] [] := T_is_ascending.bindsN fun _ _ _ _ _ _ us hl => match us, hl with | [_], _ => rfl
  refine def_ok F sc_is_condition_over rfl (by decide) fun cdv A outer s H X c hr => ?_
  have hu := hr.units
  have hu5 := room5 hr
  have hu1 := room1 hr
  exact (sss_cons (ss_if (PW.pt (sw_or (st_not (st_tru (se_isi1 rfl E.n_isinstance rfl E.n_tuple PyProof.Rows.boot_tuple (se_var (pv 1))))) (sw_or1 (st_not (st_tru (se_callB (cr_all rfl) cg_all rfl E.n_all PyProof.Rows.boot_all (sa_cons (se_fl (sf_lc rfl sc_is_condition_over.nd (si_walk (se_var (pv 1))) (blkOk_by (own := [("pair", 2)]) (N := N_is_condition_over) (by kernel_rfl)) gok_name (by decide) (fun _ _ _ _ _ => (pg_name (i := 2) sc_is_condition_over.nd rfl (Or.inl rfl))) (fun _ _ _ _ _ _ => sts_nil) (fun _ _ _ _ _ _ => (se_call G_is_side (roomLe hr (by omega)) rfl g_is_side T_is_side.kp b_is_side (sa_cons (se_var (pv 0)) (sa_cons (se_var (pv 2)) sa_nil)))))) sa_nil))))))) (sss_one (ss_ret se_bl)) sss_nil)
    (sss_one (ss_ret (se_call G_is_ascending (roomLe hr (by omega)) rfl g_is_ascending T_is_ascending.kp b_is_ascending (sa_cons (se_fl (sf_lc rfl sc_is_condition_over.nd (si_walk (se_var (pv 1))) (blkOk_by (own := [("pair", 2)]) (N := N_is_condition_over) (by kernel_rfl)) gok_name (by decide) (fun _ _ _ _ _ => (pg_name (i := 2) sc_is_condition_over.nd rfl (Or.inl rfl))) (fun _ _ _ _ _ _ => sts_nil) (fun _ _ _ _ _ _ => (se_ix ix_two opg_ix (se_var (pv 2)) se_int (fun _ _ => rfl))))) sa_nil)))))

theorem ok_is_cut (E : Env K mg) (F : FnP K "is_cut" s_is_cut f fd) : FnOk P w K mg base CX0 4 f fd ["areas", "thing"] (spD K [false, false] F_is_cut) := by
  obtain ⟨f_lookup, fd_lookup, T_lookup, g_lookup⟩ := E.d_lookup
  have G_lookup := ok_lookup (P := P) (w := w) (base := base) E T_lookup
  have b_lookup : Binds K fd_lookup ["areas"] [] := T_lookup.bindsN fun _ _ _ _ _ _ us hl => match us, hl with | [_], _ => rfl
  obtain ⟨f_is_condition_over, fd_is_condition_over, T_is_condition_over, g_is_condition_over⟩ := E.d_is_condition_over
  have G_is_condition_over := ok_is_condition_over (P := P) (w := w) (base := base) E T_is_condition_over
  have b_is_condition_over : Binds K fd_is_condition_over ["known", "thing"] [] := T_is_condition_over.bindsN fun _ _ _ _ _ _ us hl => match us, hl with | [_, _], _ => rfl
  obtain ⟨f_is_ascending, fd_is_ascending, T_is_ascending, g_is_ascending⟩ := E.d_is_ascending
  have G_is_ascending := ok_is_ascending (P := P) (w := w) (base := base) E T_is_ascending
  have b_is_ascending : Binds K fd_is_ascending ["row"] [] := T_is_ascending.bindsN fun _ _ _ _ _ _ us hl => match us, hl with | [_], _ => rfl
  refine def_ok F sc_is_cut rfl (by decide) fun cdv A outer s H X c hr => ?_
  have hu := hr.units
  have hu5 := room5 hr
  have hu1 := room1 hr
  exact (sss_cons (ss_if (st_not (st_tru (se_isi1 rfl E.n_isinstance rfl E.n_tuple PyProof.Rows.boot_tuple (se_var (pv 1))))) (sss_one (ss_ret se_bl)) sss_nil)
    (sss_cons (ss_set sc_is_cut.nd rfl (Or.inr rfl) (se_call G_lookup (roomLe hr (by omega)) rfl g_lookup T_lookup.kp b_lookup (sa_cons (se_var (pv 0)) sa_nil)))
    (sss_one (ss_ret (se_andT (se_callB (cr_all rfl) cg_all rfl E.n_all PyProof.Rows.boot_all (sa_cons (se_fl (sf_lc rfl sc_is_cut.nd (si_walk (se_var (pv 1))) (blkOk_by (own := [("condition", 3)]) (N := N_is_cut) (by kernel_rfl)) gok_name (by decide) (fun _ _ _ _ _ => (pg_name (i := 3) sc_is_cut.nd rfl (Or.inl rfl))) (fun _ _ _ _ _ _ => sts_nil) (fun _ _ _ _ _ _ => (se_call G_is_condition_over (roomLe hr (by omega)) rfl g_is_condition_over T_is_condition_over.kp b_is_condition_over (sa_cons (se_var (pv 2)) (sa_cons (se_var (pv 3)) sa_nil)))))) sa_nil)) (se_one (se_call G_is_ascending (roomLe hr (by omega)) rfl g_is_ascending T_is_ascending.kp b_is_ascending (sa_cons (se_var (pv 1)) sa_nil))))))))

theorem ok__law_case_right (E : Env K mg) (F : FnP K "_law_case_right" s__law_case_right f fd) : FnOk P w K mg base CX0 12 f fd ["_law_chart_so", "_law_land_so"] (spD K [false, false] F__law_case_right) := by
  obtain ⟨f__law_parted, fd__law_parted, T__law_parted, g__law_parted⟩ := E.d__law_parted
  have G__law_parted := okr__law_parted (P := P) (w := w) (base := base) E T__law_parted g__law_parted 8
  have b__law_parted : Binds K fd__law_parted ["_law_areas_so", "_law_spots_so", "_law_land_so", "_law_clause_so"] [] := T__law_parted.bindsN fun _ _ _ _ _ _ us hl => match us, hl with | [_, _, _, _], _ => rfl
  obtain ⟨f__law_let, fd__law_let, T__law_let, g__law_let⟩ := E.d__law_let
  have G__law_let := ok__law_let (P := P) (w := w) (base := base) E T__law_let
  have b__law_let : Binds K fd__law_let ["_law_chart_so"] [] := T__law_let.bindsN fun _ _ _ _ _ _ us hl => match us, hl with | [_], _ => rfl
  obtain ⟨f_plain_cut, fd_plain_cut, T_plain_cut, g_plain_cut⟩ := E.d_plain_cut
  have G_plain_cut := ok_plain_cut (P := P) (w := w) (base := base) E T_plain_cut
  have b_plain_cut : Binds K fd_plain_cut ["chart", "land"] [] := T_plain_cut.bindsN fun _ _ _ _ _ _ us hl => match us, hl with | [_, _], _ => rfl
  obtain ⟨f__law_lists, fd__law_lists, T__law_lists, g__law_lists⟩ := E.d__law_lists
  have G__law_lists := okr__law_lists (P := P) (w := w) (base := base) E T__law_lists g__law_lists 8
  have b__law_lists : Binds K fd__law_lists ["_law_matter_so"] [] := T__law_lists.bindsN fun _ _ _ _ _ _ us hl => match us, hl with | [_], _ => rfl
  obtain ⟨f__law_same, fd__law_same, T__law_same, g__law_same⟩ := E.d__law_same
  have G__law_same := okr__law_same (P := P) (w := w) (base := base) E T__law_same g__law_same 8
  have b__law_same : Binds K fd__law_same ["_law_got", "_law_due"] [] := T__law_same.bindsN fun _ _ _ _ _ _ us hl => match us, hl with | [_, _], _ => rfl
  obtain ⟨f_is_cut, fd_is_cut, T_is_cut, g_is_cut⟩ := E.d_is_cut
  have G_is_cut := ok_is_cut (P := P) (w := w) (base := base) E T_is_cut
  have b_is_cut : Binds K fd_is_cut ["areas", "thing"] [] := T_is_cut.bindsN fun _ _ _ _ _ _ us hl => match us, hl with | [_, _], _ => rfl
  obtain ⟨f_land_of, fd_land_of, T_land_of, g_land_of⟩ := E.d_land_of
  have G_land_of := ok_land_of (P := P) (w := w) (base := base) E T_land_of
  have b_land_of : Binds K fd_land_of ["chart", "cut"] [] := T_land_of.bindsN fun _ _ _ _ _ _ us hl => match us, hl with | [_, _], _ => rfl
  refine def_ok F sc__law_case_right rfl (by decide) fun cdv A outer s H X c hr => ?_
  have hu := hr.units
  have hu5 := room5 hr
  have hu1 := room1 hr
  exact (sss_cons (ss_set sc__law_case_right.nd rfl (Or.inl rfl) (se_callTy call_tuple_of cg_tuple rfl E.n_tuple PyProof.Rows.boot_tuple (sa_cons (se_fl (sf_callB (cr_sortD hu) cg_sorted rfl E.n_sorted PyProof.Rows.boot_sorted (sa_cons (se_call G__law_parted (roomLe hr (by omega)) rfl g__law_parted T__law_parted.kp b__law_parted (sa_cons (se_ix ix_two opg_ix (se_var (pv 0)) se_int (fun _ _ => rfl)) (sa_cons (se_call G__law_let (roomLe hr (by omega)) rfl g__law_let T__law_let.kp b__law_let (sa_cons (se_var (pv 0)) sa_nil)) (sa_cons (se_var (pv 1)) (sa_cons (se_tup sa_nil) sa_nil))))) sa_nil))) sa_nil)))
    (sss_cons (ss_set sc__law_case_right.nd rfl (Or.inl rfl) (se_lst (sa_cons (se_call G_plain_cut (roomLe hr (by omega)) rfl g_plain_cut T_plain_cut.kp b_plain_cut (sa_cons (se_var (pv 0)) (sa_cons (se_var (pv 1)) sa_nil))) (sa_cons (se_call G_plain_cut (roomLe hr (by omega)) rfl g_plain_cut T_plain_cut.kp b_plain_cut (sa_cons (se_call G__law_lists (roomLe hr (by omega)) rfl g__law_lists T__law_lists.kp b__law_lists (sa_cons (se_var (pv 0)) sa_nil)) (sa_cons (se_call G__law_lists (roomLe hr (by omega)) rfl g__law_lists T__law_lists.kp b__law_lists (sa_cons (se_var (pv 1)) sa_nil)) sa_nil))) sa_nil))))
    (sss_cons (ss_if (PW.pt (sw_or (st_not (st_tru (se_call G__law_same (roomLe hr (by omega)) rfl g__law_same T__law_same.kp b__law_same (sa_cons (se_var (pv 3)) (sa_cons (se_lst (sa_cons (se_var (pv 2)) (sa_cons (se_var (pv 2)) sa_nil))) sa_nil))))) (sw_or (st_not (st_tru (se_call G_is_cut (roomLe hr (by omega)) rfl g_is_cut T_is_cut.kp b_is_cut (sa_cons (se_ix ix_two opg_ix (se_var (pv 0)) se_int (fun _ _ => rfl)) (sa_cons (se_var (pv 2)) sa_nil))))) (sw_or1 (st_cmp (op_neD hu) opg_ne (se_call G_land_of (roomLe hr (by omega)) rfl g_land_of T_land_of.kp b_land_of (sa_cons (se_var (pv 0)) (sa_cons (se_var (pv 2)) sa_nil))) (se_var (pv 1)) (nomark _)))))) (sss_one (ss_ret se_bl)) sss_nil)
    (sss_cons (ss_for PassesOwn.never rfl (si_range1 rfl E.n_range (sa_cons (se_if (st_cmp (op_ltA hu) opg_ltA (se_callB call_lenA cg_len rfl E.n_len PySem.boot_len (sa_cons (se_var (pv 2)) sa_nil)) se_int (nomark _)) (se_callB call_lenA cg_len rfl E.n_len PySem.boot_len (sa_cons (se_var (pv 2)) sa_nil)) se_int) sa_nil)) (pg_name (i := 4) sc__law_case_right.nd rfl (Or.inl rfl)) gok_name (sss_one (ss_if (st_cmp (op_eqD hu) opg_eq (se_call G_land_of (roomLe hr (by omega)) rfl g_land_of T_land_of.kp b_land_of (sa_cons (se_var (pv 0)) (sa_cons (se_op op_plus opg_plus (se_slice (se_var (pv 2)) so_none (so_some (se_var (pv 4)))) (se_slice (se_var (pv 2)) (so_some (se_op op_plus opg_plus (se_var (pv 4)) se_int)) so_none)) sa_nil))) (se_var (pv 1)) (nomark _)) (sss_one (ss_ret se_bl)) sss_nil)))
    (sss_one (ss_ret se_bl))))))

theorem ok__law_cut (E : Env K mg) (F : FnP K "_law_cut" s__law_cut f fd) : FnOk P w K mg base CX0 3 f fd ["_law_box_here", "_law_areas_so", "_law_most_so"] (spD K [true, false, false] F__law_cut) := by
  obtain ⟨f__law_take, fd__law_take, T__law_take, g__law_take⟩ := E.d__law_take
  have G__law_take := ok__law_take (P := P) (w := w) (base := base) E T__law_take
  have b__law_take : Binds K fd__law_take ["_law_box_here", "_law_below_so"] [] := T__law_take.bindsN fun _ _ _ _ _ _ us hl => match us, hl with | [_, _], _ => rfl
  obtain ⟨f__law_clause, fd__law_clause, T__law_clause, g__law_clause⟩ := E.d__law_clause
  have G__law_clause := ok__law_clause (P := P) (w := w) (base := base) E T__law_clause
  have b__law_clause : Binds K fd__law_clause ["_law_box_here", "_law_areas_so"] [] := T__law_clause.bindsN fun _ _ _ _ _ _ us hl => match us, hl with | [_, _], _ => rfl
  refine def_ok F sc__law_cut rfl (by decide) fun cdv A outer s H X c hr => ?_
  have hu := hr.units
  have hu5 := room5 hr
  have hu1 := room1 hr
  exact (sss_one (ss_ret (se_callTy call_tuple_of cg_tuple rfl E.n_tuple PyProof.Rows.boot_tuple (sa_cons (se_fl (sf_sortset rfl hu rfl E.n_sorted rfl E.n_set (se_fl (sf_lc rfl sc__law_cut.nd (si_range1 rfl E.n_range (sa_cons (se_call G__law_take (roomLe hr (by omega)) rfl g__law_take T__law_take.kp b__law_take (sa_cons (se_var (pv 0)) (sa_cons (se_op op_plus opg_plus (se_var (pv 2)) se_int) sa_nil))) sa_nil)) (blkOk_by (own := [("_law_turn", 3)]) (N := N__law_cut) (by kernel_rfl)) gok_name (by decide) (fun _ _ _ _ _ => (pg_name (i := 3) sc__law_cut.nd rfl (Or.inl rfl))) (fun _ _ _ _ _ _ => sts_nil) (fun _ _ _ _ _ _ => (se_call G__law_clause (roomLe hr (by omega)) rfl g__law_clause T__law_clause.kp b__law_clause (sa_cons (se_var (pv 0)) (sa_cons (se_var (pv 1)) sa_nil)))))))) sa_nil))))

theorem ok__law_right (E : Env K mg) (F : FnP K "_law_right" s__law_right f fd) : FnOk P w K mg base CX0 13 f fd ["_law_box_here"] (spD K [true] F__law_right) := by
  obtain ⟨f__law_chart, fd__law_chart, T__law_chart, g__law_chart⟩ := E.d__law_chart
  have G__law_chart := ok__law_chart (P := P) (w := w) (base := base) E T__law_chart
  have b__law_chart : Binds K fd__law_chart ["_law_box_here", "_law_many_so"] [] := T__law_chart.bindsN fun _ _ _ _ _ _ us hl => match us, hl with | [_, _], _ => rfl
  obtain ⟨f__law_let, fd__law_let, T__law_let, g__law_let⟩ := E.d__law_let
  have G__law_let := ok__law_let (P := P) (w := w) (base := base) E T__law_let
  have b__law_let : Binds K fd__law_let ["_law_chart_so"] [] := T__law_let.bindsN fun _ _ _ _ _ _ us hl => match us, hl with | [_], _ => rfl
  obtain ⟨f__law_take, fd__law_take, T__law_take, g__law_take⟩ := E.d__law_take
  have G__law_take := ok__law_take (P := P) (w := w) (base := base) E T__law_take
  have b__law_take : Binds K fd__law_take ["_law_box_here", "_law_below_so"] [] := T__law_take.bindsN fun _ _ _ _ _ _ us hl => match us, hl with | [_, _], _ => rfl
  obtain ⟨f__law_land, fd__law_land, T__law_land, g__law_land⟩ := E.d__law_land
  have G__law_land := ok__law_land (P := P) (w := w) (base := base) E T__law_land
  have b__law_land : Binds K fd__law_land ["_law_chart_so", "_law_cut_so"] [] := T__law_land.bindsN fun _ _ _ _ _ _ us hl => match us, hl with | [_, _], _ => rfl
  obtain ⟨f__law_cut, fd__law_cut, T__law_cut, g__law_cut⟩ := E.d__law_cut
  have G__law_cut := ok__law_cut (P := P) (w := w) (base := base) E T__law_cut
  have b__law_cut : Binds K fd__law_cut ["_law_box_here", "_law_areas_so", "_law_most_so"] [] := T__law_cut.bindsN fun _ _ _ _ _ _ us hl => match us, hl with | [_, _, _], _ => rfl
  obtain ⟨f__law_case_right, fd__law_case_right, T__law_case_right, g__law_case_right⟩ := E.d__law_case_right
  have G__law_case_right := ok__law_case_right (P := P) (w := w) (base := base) E T__law_case_right
  have b__law_case_right : Binds K fd__law_case_right ["_law_chart_so", "_law_land_so"] [] := T__law_case_right.bindsN fun _ _ _ _ _ _ us hl => match us, hl with | [_, _], _ => rfl
  obtain ⟨f_plain_cut, fd_plain_cut, T_plain_cut, g_plain_cut⟩ := E.d_plain_cut
  have G_plain_cut := ok_plain_cut (P := P) (w := w) (base := base) E T_plain_cut
  have b_plain_cut : Binds K fd_plain_cut ["chart", "land"] [] := T_plain_cut.bindsN fun _ _ _ _ _ _ us hl => match us, hl with | [_, _], _ => rfl
  obtain ⟨f_land_of, fd_land_of, T_land_of, g_land_of⟩ := E.d_land_of
  have G_land_of := ok_land_of (P := P) (w := w) (base := base) E T_land_of
  have b_land_of : Binds K fd_land_of ["chart", "cut"] [] := T_land_of.bindsN fun _ _ _ _ _ _ us hl => match us, hl with | [_, _], _ => rfl
  refine def_ok F sc__law_right rfl (by decide) fun cdv A outer s H X c hr => ?_
  have hu := hr.units
  have hu5 := room5 hr
  have hu1 := room1 hr
  exact (sss_cons (ss_for PassesOwn.never rfl (si_range1 rfl E.n_range (sa_cons se_int sa_nil)) (pg_name (i := 1) sc__law_right.nd rfl (Or.inl rfl)) gok_name (sss_cons (ss_set sc__law_right.nd rfl (Or.inr rfl) (se_call G__law_chart (roomLe hr (by omega)) rfl g__law_chart T__law_chart.kp b__law_chart (sa_cons (se_var (pv 0)) (sa_cons se_int sa_nil))))
    (sss_cons (ss_set sc__law_right.nd rfl (Or.inl rfl) (se_callTy call_tuple_of cg_tuple rfl E.n_tuple PyProof.Rows.boot_tuple (sa_cons (se_fl (sf_lc rfl sc__law_right.nd (si_walk (se_call G__law_let (roomLe hr (by omega)) rfl g__law_let T__law_let.kp b__law_let (sa_cons (se_var (pv 2)) sa_nil))) (blkOk_by (own := [("_law_own", 8)]) (N := N__law_right) (by kernel_rfl)) gok_name (by decide) (fun _ _ _ _ _ => (pg_name (i := 8) sc__law_right.nd rfl (Or.inl rfl))) (fun _ _ _ _ _ _ => (sts_one (st_cmp (op_eqD hu) opg_eq (se_call G__law_take (roomLe hr (by omega)) rfl g__law_take T__law_take.kp b__law_take (sa_cons (se_var (pv 0)) (sa_cons se_int sa_nil))) se_int (nomark _)))) (fun _ _ _ _ _ _ => (se_var (pv 8))))) sa_nil)))
    (sss_cons (ss_if (st_cmp (op_eqD hu) opg_eq (se_call G__law_take (roomLe hr (by omega)) rfl g__law_take T__law_take.kp b__law_take (sa_cons (se_var (pv 0)) (sa_cons se_int sa_nil))) se_int (nomark _)) (sss_one (ss_set sc__law_right.nd rfl (Or.inl rfl) (se_call G__law_land (roomLe hr (by omega)) rfl g__law_land T__law_land.kp b__law_land (sa_cons (se_var (pv 2)) (sa_cons (se_call G__law_cut (roomLe hr (by omega)) rfl g__law_cut T__law_cut.kp b__law_cut (sa_cons (se_var (pv 0)) (sa_cons (se_ix ix_two opg_ix (se_var (pv 2)) se_int (fun _ _ => rfl)) (sa_cons se_int sa_nil)))) sa_nil))))) sss_nil)
    (sss_cons (ss_if (st_not (st_tru (se_call G__law_case_right (roomLe hr (by omega)) rfl g__law_case_right T__law_case_right.kp b__law_case_right (sa_cons (se_var (pv 2)) (sa_cons (se_var (pv 3)) sa_nil))))) (sss_one (ss_ret se_bl)) sss_nil)
    (sss_cons (ss_par rfl sc__law_right.nd rfl rfl (by decide) rfl rfl (sa_cons (se_call G__law_cut (roomLe hr (by omega)) rfl g__law_cut T__law_cut.kp b__law_cut (sa_cons (se_var (pv 0)) (sa_cons (se_ix ix_two opg_ix (se_var (pv 2)) se_int (fun _ _ => rfl)) (sa_cons se_int sa_nil)))) (sa_cons (se_call G__law_cut (roomLe hr (by omega)) rfl g__law_cut T__law_cut.kp b__law_cut (sa_cons (se_var (pv 0)) (sa_cons (se_ix ix_two opg_ix (se_var (pv 2)) se_int (fun _ _ => rfl)) (sa_cons se_int sa_nil)))) sa_nil)))
    (sss_cons (ss_set sc__law_right.nd rfl (Or.inl rfl) (se_cmp (op_eqD hu) opg_eq (se_call G__law_land (roomLe hr (by omega)) rfl g__law_land T__law_land.kp b__law_land (sa_cons (se_var (pv 2)) (sa_cons (se_var (pv 6)) sa_nil))) (se_call G__law_land (roomLe hr (by omega)) rfl g__law_land T__law_land.kp b__law_land (sa_cons (se_var (pv 2)) (sa_cons (se_var (pv 7)) sa_nil))) (nomark _)))
    (sss_cons (ss_lcSet rfl sc__law_right.nd rfl rfl (sw_true rfl rfl rfl (by decide +kernel)) (si_walk (se_tup (sa_cons (se_var (pv 6)) (sa_cons (se_var (pv 7)) sa_nil)))) (blkOk_by (own := [("_law_own", 8)]) (N := N__law_right) (by kernel_rfl)) gok_name (by decide) (fun _ _ _ _ _ => (pg_name (i := 8) sc__law_right.nd rfl (Or.inl rfl))) (fun _ _ _ _ _ _ => sts_nil) (fun _ _ _ _ _ _ => (se_call G_plain_cut (roomLe hr (by omega)) rfl g_plain_cut T_plain_cut.kp b_plain_cut (sa_cons (se_var (pv 2)) (sa_cons (se_call G_land_of (roomLe hr (by omega)) rfl g_land_of T_land_of.kp b_land_of (sa_cons (se_var (pv 2)) (sa_cons (se_var (pv 8)) sa_nil))) sa_nil)))))
    (sss_one (ss_if (st_cmp (op_neD hu) opg_ne (se_cmp (op_eqD hu) opg_eq (se_ix ix_two opg_ix (se_var (pv 5)) se_int (fun _ _ => rfl)) (se_ix ix_two opg_ix (se_var (pv 5)) se_int (fun _ _ => rfl)) (nomark _)) (se_var (pv 4)) (nomark _)) (sss_one (ss_ret se_bl)) sss_nil))))))))))
    (sss_one (ss_ret se_bl)))

theorem ok__law_box (E : Env K mg) (F : FnP K "_law_box" s__law_box f fd) : FnOk P w K mg base CX0 1 f fd ["_law_script", "_law_k"] (spO K [false, false] F__law_box) := by
  refine def_okO F sc__law_box rfl (by decide) fun cdv A outer s H X c hr => ?_
  have hu := hr.units
  have hu5 := room5 hr
  have hu1 := room1 hr
  exact (sss_cons (ss_set sc__law_box.nd rfl (Or.inl rfl) (se_if (st_cmp (op_ltA hu) opg_ltA (se_var (pv 1)) (se_callB call_lenA cg_len rfl E.n_len PySem.boot_len (sa_cons (se_var (pv 0)) sa_nil)) (nomark _)) (se_ix ix_two opg_ix (se_var (pv 0)) (se_var (pv 1)) (fun _ _ => rfl)) se_int))
    (sss_one (ss_retF (sf_lst (sa_cons (se_op op_mul opg_mul (se_callB call_abs cg_abs rfl E.n_abs PyProof.Rows.boot_abs (sa_cons (se_var (pv 2)) sa_nil)) (se_callTy call_int1 cg_int rfl E.n_int PyProof.Rows.boot_int (sa_cons (se_cmp (op_geA hu) opg_geA (se_callB call_abs cg_abs rfl E.n_abs PyProof.Rows.boot_abs (sa_cons (se_var (pv 2)) sa_nil)) (se_op op_pow opg_pow se_int se_int) (nomark _)) sa_nil))) (sa_cons (se_op op_plus opg_plus (se_op op_plus opg_plus (se_op op_mod opg_mod (se_callTy call_int1 cg_int rfl E.n_int PyProof.Rows.boot_int (sa_cons (se_var (pv 2)) sa_nil)) se_int) (se_op op_mul opg_mul se_int (se_var (pv 1)))) se_int) (sa_cons se_int sa_nil)))))))

theorem ok_law (E : Env K mg) (F : FnP K "law" s_law f fd) : FnOk P w K mg base CX0 14 f fd ["_law_script"] (spD K [false] F_law) := by
  obtain ⟨f__law_by_hand_right, fd__law_by_hand_right, T__law_by_hand_right, g__law_by_hand_right⟩ := E.d__law_by_hand_right
  have G__law_by_hand_right := ok__law_by_hand_right (P := P) (w := w) (base := base) E T__law_by_hand_right
  have b__law_by_hand_right : Binds K fd__law_by_hand_right [] [] := T__law_by_hand_right.bindsN fun _ _ _ _ _ _ us hl => match us, hl with | [], _ => rfl
  obtain ⟨f__law_cells, fd__law_cells, T__law_cells, g__law_cells⟩ := E.d__law_cells
  have G__law_cells := ok__law_cells (P := P) (w := w) (base := base) E T__law_cells
  have b__law_cells : Binds K fd__law_cells ["_law_script", "_law_top_so"] [] := T__law_cells.bindsN fun _ _ _ _ _ _ us hl => match us, hl with | [_, _], _ => rfl
  obtain ⟨f__law_right, fd__law_right, T__law_right, g__law_right⟩ := E.d__law_right
  have G__law_right := ok__law_right (P := P) (w := w) (base := base) E T__law_right
  have b__law_right : Binds K fd__law_right ["_law_box_here"] [] := T__law_right.bindsN fun _ _ _ _ _ _ us hl => match us, hl with | [_], _ => rfl
  obtain ⟨f__law_box, fd__law_box, T__law_box, g__law_box⟩ := E.d__law_box
  have G__law_box := ok__law_box (P := P) (w := w) (base := base) E T__law_box
  have b__law_box : Binds K fd__law_box ["_law_script", "_law_k"] [] := T__law_box.bindsN fun _ _ _ _ _ _ us hl => match us, hl with | [_, _], _ => rfl
  refine def_ok F sc_law rfl (by decide) fun cdv A outer s H X c hr => ?_
  have hu := hr.units
  have hu5 := room5 hr
  have hu1 := room1 hr
  exact (sss_cons (ss_if (st_not (st_tru (se_call0 G__law_by_hand_right (roomLe hr (by omega)) rfl g__law_by_hand_right T__law_by_hand_right.kp b__law_by_hand_right))) (sss_one (ss_ret se_bl)) sss_nil)
    (sss_cons (ss_set sc_law.nd rfl (Or.inr rfl) (se_call G__law_cells (roomLe hr (by omega)) rfl g__law_cells T__law_cells.kp b__law_cells (sa_cons (se_var (pv 0)) (sa_cons se_int sa_nil))))
    (sss_one (ss_ret (se_callB (cr_all rfl) cg_all rfl E.n_all PyProof.Rows.boot_all (sa_cons (se_fl (sf_lc rfl sc_law.nd (si_range1 rfl E.n_range (sa_cons (se_callB call_lenA cg_len rfl E.n_len PySem.boot_len (sa_cons (se_var (pv 1)) sa_nil)) sa_nil)) (blkOk_by (own := [("_law_k", 2)]) (N := N_law) (by kernel_rfl)) gok_name (by decide) (fun _ _ _ _ _ => (pg_name (i := 2) sc_law.nd rfl (Or.inl rfl))) (fun _ _ _ _ _ _ => sts_nil) (fun _ _ _ _ _ _ => (se_callL G__law_right (roomLe hr (by omega)) rfl g__law_right T__law_right.kp b__law_right (sf_callO G__law_box (roomLe hr (by omega)) rfl g__law_box T__law_box.kp b__law_box (sa_cons (se_var (pv 1)) (sa_cons (se_var (pv 2)) sa_nil))))))) sa_nil))))))

end
end K03

set_option Elab.async false
set_option linter.all false
set_option maxRecDepth 100000
set_option maxHeartbeats 1000000
namespace K03
open L2.Lp Lnd
open PySem (PyData Str)
abbrev Spot := List Nm
abbrev Cond := List (Nm × Bool)
abbrev Cut := List Cond
abbrev Chart := List Nm × Cut
def eSpot (b : Bool) (s : Spot) : PyData := sq b (s.map eNm)
def ePair (b : Bool) (p : Nm × Bool) : PyData := sq b [eNm p.1, eBool p.2]
def eCond (b : Bool) (c : Cond) : PyData := sq b (c.map (ePair b))
def eCut (b : Bool) (c : Cut) : PyData := sq b (c.map (eCond b))
def eLand (b : Bool) (c : List Spot) : PyData := sq b (c.map (eSpot b))
def eChart (b : Bool) (c : Chart) : PyData := sq b [eSpot b c.1, eCut b c.2]
theorem enc_spot (b : Bool) : IsEnc (eSpot b) (.seq b .str) := enc_nm.seq b (by cases b <;> decide)
theorem enc_pair (b : Bool) : IsEnc (ePair b) (.row b [.str, .bool]) := enc_nm.pair enc_bool b (by cases b <;> decide)
theorem enc_cond (b : Bool) : IsEnc (eCond b) (.seq b (.row b [.str, .bool])) := (enc_pair b).seq b (by cases b <;> decide)
theorem enc_land (b : Bool) : IsEnc (eLand b) (.seq b (.seq b .str)) := (enc_spot b).seq b (by cases b <;> decide)
theorem enc_cut (b : Bool) : IsEnc (eCut b) (.seq b (.seq b (.row b [.str, .bool]))) := (enc_cond b).seq b (by cases b <;> decide)
theorem in_nm (neg b : Bool) (x : Nm) (xs : List Nm) : gInB neg (eNm x) (eSpot b xs) = some (.bool (neg != decide (x ∈ xs))) := in_enc enc_nm neg b x xs
theorem eq_bool (x y : Bool) : gEq (.bool x) (.bool y) = some (.bool (x == y)) := by
  rw [show (x == y) = decide (x = y) by cases x <;> cases y <;> rfl]
  exact eq_enc enc_bool x y
theorem ne_bool (x y : Bool) : gNe (.bool x) (.bool y) = some (.bool (x != y)) := by
  rw [show (x != y) = !decide (x = y) by cases x <;> cases y <;> rfl]
  exact ne_enc enc_bool x y
theorem all_fun {α : Type} (f : α → Bool) (xs : List α) : allD (.list (xs.map fun x => .bool (f x))) = some (.bool (xs.all f)) := all_map f xs
theorem keeps_F (a b : Bool) (s : Spot) (c : Cond) : F_keeps [eSpot a s, eCond b c] = some (.bool (keepsT s c), []) := by
  simp only [F_keeps, f_keeps, eCond]
  simp [fVar_ap, fC_ap, fTup_ap, fLst_ap, fOp_ap, fB_ap, fCall_ap, fAnd_ap, fOr_ap, fNot_ap, fIf_ap, fV_ap, fAndV_ap, fOrV_ap, fL_ap, fDisp_ap, fSeq_ap, fEnum_ap, fZip_ap, gSh_ap, gTupF_ap, fLc_ap, fYes_ap, fNil_ap, fThen_ap, fAsg_ap, fOwn_ap, fAsgT_ap, fRet_ap, fRetF_ap, fRetN_ap, fBk_ap, fCt_ap, fDrop_ap, fIfS_ap, fFor_ap, fCallD_ap, fG1_ap, fIsi_ap, fSl_ap, fSlF_ap, fD_ap, fOwnD_ap, fDc_ap, fT_ap, fOrT_ap, fAndT_ap, fOrF_ap, storeD_ap, fPut_ap, fCallO_ap, fCallL_ap, appD_ap, fApp_ap, fDg_ap, fNegI_ap, fPar_ap, fCallKw_ap, fChain_ap, fGet2_ap, fGet1_ap, fWalk_ap, fNotT_ap, fNotV_ap, fG1F_ap, fOpF_ap, fCallF_ap, runD_ap, runO_ap, Option.bind_assoc, loopF_nil, loopF_cons, loopLc_nil, loopLc_cons, loopW_succ, items_list, items_tuple, items_sq, tupD_list, tupD_tuple, tupD_sq, lenD_list, lenD_tuple, lenD_sq, intD_int, intD_bool, absD_int, truD_none, truD_bool, truD_int, truD_list, truD_tuple, truD_sq, gIx_int, asB_bool, g1_one, g1L_one, g2i_two, gInt_two, res_d, res_bor, fz_d, fz_bor, andThen_nx, andThen_rt, andThen_ro, andThen_bk, andThen_ct, again_nx, again_ct, again_bk, again_rt, again_ro, ended_rt, ended_nx, ended_ro, endedO_ro, fzs, eA, ress, outsOf, argsD, setOuts, gsCons, gsNil, argEnv, wipeE, restE, turnLc, maxD, minD, plus_int, sub_int, int_eq, int_ne, int_lt, int_le, int_gt, int_ge, oNone, oSome, pick, atI_0, atI_1, atI_2]
  apply lc_all_k (φ := fun p => .bool (decide (p.1 ∈ s) == p.2))
  · rintro ⟨x, y⟩ _
    simp [fVar_ap, fC_ap, fTup_ap, fLst_ap, fOp_ap, fB_ap, fCall_ap, fAnd_ap, fOr_ap, fNot_ap, fIf_ap, fV_ap, fAndV_ap, fOrV_ap, fL_ap, fDisp_ap, fSeq_ap, fEnum_ap, fZip_ap, gSh_ap, gTupF_ap, fLc_ap, fYes_ap, fNil_ap, fThen_ap, fAsg_ap, fOwn_ap, fAsgT_ap, fRet_ap, fRetF_ap, fRetN_ap, fBk_ap, fCt_ap, fDrop_ap, fIfS_ap, fFor_ap, fCallD_ap, fG1_ap, fIsi_ap, fSl_ap, fSlF_ap, fD_ap, fOwnD_ap, fDc_ap, fT_ap, fOrT_ap, fAndT_ap, fOrF_ap, storeD_ap, fPut_ap, fCallO_ap, fCallL_ap, appD_ap, fApp_ap, fDg_ap, fNegI_ap, fPar_ap, fCallKw_ap, fChain_ap, fGet2_ap, fGet1_ap, fWalk_ap, fNotT_ap, fNotV_ap, fG1F_ap, fOpF_ap, fCallF_ap, runD_ap, runO_ap, Option.bind_assoc, loopF_nil, loopF_cons, loopLc_nil, loopLc_cons, loopW_succ, items_list, items_tuple, items_sq, tupD_list, tupD_tuple, tupD_sq, lenD_list, lenD_tuple, lenD_sq, intD_int, intD_bool, absD_int, truD_none, truD_bool, truD_int, truD_list, truD_tuple, truD_sq, gIx_int, asB_bool, g1_one, g1L_one, g2i_two, gInt_two, res_d, res_bor, fz_d, fz_bor, andThen_nx, andThen_rt, andThen_ro, andThen_bk, andThen_ct, again_nx, again_ct, again_bk, again_rt, again_ro, ended_rt, ended_nx, ended_ro, endedO_ro, fzs, eA, ress, outsOf, argsD, setOuts, gsCons, gsNil, argEnv, wipeE, restE, turnLc, maxD, minD, plus_int, sub_int, int_eq, int_ne, int_lt, int_le, int_gt, int_ge, oNone, oSome, pick, atI_0, atI_1, atI_2, ePair, in_nm, eq_bool, eBool]
  · simp [fVar_ap, fC_ap, fTup_ap, fLst_ap, fOp_ap, fB_ap, fCall_ap, fAnd_ap, fOr_ap, fNot_ap, fIf_ap, fV_ap, fAndV_ap, fOrV_ap, fL_ap, fDisp_ap, fSeq_ap, fEnum_ap, fZip_ap, gSh_ap, gTupF_ap, fLc_ap, fYes_ap, fNil_ap, fThen_ap, fAsg_ap, fOwn_ap, fAsgT_ap, fRet_ap, fRetF_ap, fRetN_ap, fBk_ap, fCt_ap, fDrop_ap, fIfS_ap, fFor_ap, fCallD_ap, fG1_ap, fIsi_ap, fSl_ap, fSlF_ap, fD_ap, fOwnD_ap, fDc_ap, fT_ap, fOrT_ap, fAndT_ap, fOrF_ap, storeD_ap, fPut_ap, fCallO_ap, fCallL_ap, appD_ap, fApp_ap, fDg_ap, fNegI_ap, fPar_ap, fCallKw_ap, fChain_ap, fGet2_ap, fGet1_ap, fWalk_ap, fNotT_ap, fNotV_ap, fG1F_ap, fOpF_ap, fCallF_ap, runD_ap, runO_ap, Option.bind_assoc, loopF_nil, loopF_cons, loopLc_nil, loopLc_cons, loopW_succ, items_list, items_tuple, items_sq, tupD_list, tupD_tuple, tupD_sq, lenD_list, lenD_tuple, lenD_sq, intD_int, intD_bool, absD_int, truD_none, truD_bool, truD_int, truD_list, truD_tuple, truD_sq, gIx_int, asB_bool, g1_one, g1L_one, g2i_two, gInt_two, res_d, res_bor, fz_d, fz_bor, andThen_nx, andThen_rt, andThen_ro, andThen_bk, andThen_ct, again_nx, again_ct, again_bk, again_rt, again_ro, ended_rt, ended_nx, ended_ro, endedO_ro, fzs, eA, ress, outsOf, argsD, setOuts, gsCons, gsNil, argEnv, wipeE, restE, turnLc, maxD, minD, plus_int, sub_int, int_eq, int_ne, int_lt, int_le, int_gt, int_ge, oNone, oSome, pick, atI_0, atI_1, atI_2, all_map]
    rfl
theorem is_in_F (a b : Bool) (s : Spot) (c : Cut) : F_is_in [eSpot a s, eCut b c] = some (.bool (inT s c), []) := by
  simp only [F_is_in, f_is_in, eCut]
  simp [fVar_ap, fC_ap, fTup_ap, fLst_ap, fOp_ap, fB_ap, fCall_ap, fAnd_ap, fOr_ap, fNot_ap, fIf_ap, fV_ap, fAndV_ap, fOrV_ap, fL_ap, fDisp_ap, fSeq_ap, fEnum_ap, fZip_ap, gSh_ap, gTupF_ap, fLc_ap, fYes_ap, fNil_ap, fThen_ap, fAsg_ap, fOwn_ap, fAsgT_ap, fRet_ap, fRetF_ap, fRetN_ap, fBk_ap, fCt_ap, fDrop_ap, fIfS_ap, fFor_ap, fCallD_ap, fG1_ap, fIsi_ap, fSl_ap, fSlF_ap, fD_ap, fOwnD_ap, fDc_ap, fT_ap, fOrT_ap, fAndT_ap, fOrF_ap, storeD_ap, fPut_ap, fCallO_ap, fCallL_ap, appD_ap, fApp_ap, fDg_ap, fNegI_ap, fPar_ap, fCallKw_ap, fChain_ap, fGet2_ap, fGet1_ap, fWalk_ap, fNotT_ap, fNotV_ap, fG1F_ap, fOpF_ap, fCallF_ap, runD_ap, runO_ap, Option.bind_assoc, loopF_nil, loopF_cons, loopLc_nil, loopLc_cons, loopW_succ, items_list, items_tuple, items_sq, tupD_list, tupD_tuple, tupD_sq, lenD_list, lenD_tuple, lenD_sq, intD_int, intD_bool, absD_int, truD_none, truD_bool, truD_int, truD_list, truD_tuple, truD_sq, gIx_int, asB_bool, g1_one, g1L_one, g2i_two, gInt_two, res_d, res_bor, fz_d, fz_bor, andThen_nx, andThen_rt, andThen_ro, andThen_bk, andThen_ct, again_nx, again_ct, again_bk, again_rt, again_ro, ended_rt, ended_nx, ended_ro, endedO_ro, fzs, eA, ress, outsOf, argsD, setOuts, gsCons, gsNil, argEnv, wipeE, restE, turnLc, maxD, minD, plus_int, sub_int, int_eq, int_ne, int_lt, int_le, int_gt, int_ge, oNone, oSome, pick, atI_0, atI_1, atI_2]
  apply lc_all_k (φ := fun p => .bool (keepsT s p))
  · intro x _
    simp [fVar_ap, fC_ap, fTup_ap, fLst_ap, fOp_ap, fB_ap, fCall_ap, fAnd_ap, fOr_ap, fNot_ap, fIf_ap, fV_ap, fAndV_ap, fOrV_ap, fL_ap, fDisp_ap, fSeq_ap, fEnum_ap, fZip_ap, gSh_ap, gTupF_ap, fLc_ap, fYes_ap, fNil_ap, fThen_ap, fAsg_ap, fOwn_ap, fAsgT_ap, fRet_ap, fRetF_ap, fRetN_ap, fBk_ap, fCt_ap, fDrop_ap, fIfS_ap, fFor_ap, fCallD_ap, fG1_ap, fIsi_ap, fSl_ap, fSlF_ap, fD_ap, fOwnD_ap, fDc_ap, fT_ap, fOrT_ap, fAndT_ap, fOrF_ap, storeD_ap, fPut_ap, fCallO_ap, fCallL_ap, appD_ap, fApp_ap, fDg_ap, fNegI_ap, fPar_ap, fCallKw_ap, fChain_ap, fGet2_ap, fGet1_ap, fWalk_ap, fNotT_ap, fNotV_ap, fG1F_ap, fOpF_ap, fCallF_ap, runD_ap, runO_ap, Option.bind_assoc, loopF_nil, loopF_cons, loopLc_nil, loopLc_cons, loopW_succ, items_list, items_tuple, items_sq, tupD_list, tupD_tuple, tupD_sq, lenD_list, lenD_tuple, lenD_sq, intD_int, intD_bool, absD_int, truD_none, truD_bool, truD_int, truD_list, truD_tuple, truD_sq, gIx_int, asB_bool, g1_one, g1L_one, g2i_two, gInt_two, res_d, res_bor, fz_d, fz_bor, andThen_nx, andThen_rt, andThen_ro, andThen_bk, andThen_ct, again_nx, again_ct, again_bk, again_rt, again_ro, ended_rt, ended_nx, ended_ro, endedO_ro, fzs, eA, ress, outsOf, argsD, setOuts, gsCons, gsNil, argEnv, wipeE, restE, turnLc, maxD, minD, plus_int, sub_int, int_eq, int_ne, int_lt, int_le, int_gt, int_ge, oNone, oSome, pick, atI_0, atI_1, atI_2, keeps_F]
  · simp [fVar_ap, fC_ap, fTup_ap, fLst_ap, fOp_ap, fB_ap, fCall_ap, fAnd_ap, fOr_ap, fNot_ap, fIf_ap, fV_ap, fAndV_ap, fOrV_ap, fL_ap, fDisp_ap, fSeq_ap, fEnum_ap, fZip_ap, gSh_ap, gTupF_ap, fLc_ap, fYes_ap, fNil_ap, fThen_ap, fAsg_ap, fOwn_ap, fAsgT_ap, fRet_ap, fRetF_ap, fRetN_ap, fBk_ap, fCt_ap, fDrop_ap, fIfS_ap, fFor_ap, fCallD_ap, fG1_ap, fIsi_ap, fSl_ap, fSlF_ap, fD_ap, fOwnD_ap, fDc_ap, fT_ap, fOrT_ap, fAndT_ap, fOrF_ap, storeD_ap, fPut_ap, fCallO_ap, fCallL_ap, appD_ap, fApp_ap, fDg_ap, fNegI_ap, fPar_ap, fCallKw_ap, fChain_ap, fGet2_ap, fGet1_ap, fWalk_ap, fNotT_ap, fNotV_ap, fG1F_ap, fOpF_ap, fCallF_ap, runD_ap, runO_ap, Option.bind_assoc, loopF_nil, loopF_cons, loopLc_nil, loopLc_cons, loopW_succ, items_list, items_tuple, items_sq, tupD_list, tupD_tuple, tupD_sq, lenD_list, lenD_tuple, lenD_sq, intD_int, intD_bool, absD_int, truD_none, truD_bool, truD_int, truD_list, truD_tuple, truD_sq, gIx_int, asB_bool, g1_one, g1L_one, g2i_two, gInt_two, res_d, res_bor, fz_d, fz_bor, andThen_nx, andThen_rt, andThen_ro, andThen_bk, andThen_ct, again_nx, again_ct, again_bk, again_rt, again_ro, ended_rt, ended_nx, ended_ro, endedO_ro, fzs, eA, ress, outsOf, argsD, setOuts, gsCons, gsNil, argEnv, wipeE, restE, turnLc, maxD, minD, plus_int, sub_int, int_eq, int_ne, int_lt, int_le, int_gt, int_ge, oNone, oSome, pick, atI_0, atI_1, atI_2, any_map]
    rfl
theorem seq_nil_enc {X : Type} {enc : X → PyData} {t : Ty} [DecidableEq X] (h : IsEnc enc t) (k : t.dep + 1 ≤ 40) (xs : List X) : gEq (.list (xs.map enc)) (.list []) = some (.bool (decide (xs = []))) := eq_enc (h.seq false k) xs []
theorem eq_nil_map {X Y : Type} {enc : X → PyData} {t : Ty} (h : IsEnc enc t) (k : t.dep + 1 ≤ 40) (f : Y → X) (ys : List Y) : gEq (.list (ys.map fun y => enc (f y))) (.list []) = some (.bool ys.isEmpty) := by
  have a := has_shapedA h false (ys.map f)
  rw [List.map_map] at a
  unfold gEq
  rw [if_pos ⟨a, by decide +kernel⟩]
  cases ys <;> simp [PyData.eqv, PyData.eqvAll]
theorem law_in_F (a b : Bool) (s : Spot) (c : Cut) : F__law_in [eSpot a s, eCut b c] = some (.bool (inT s c), []) := by
  simp only [F__law_in, f__law_in, eCut]
  simp [fVar_ap, fC_ap, fTup_ap, fLst_ap, fOp_ap, fB_ap, fCall_ap, fAnd_ap, fOr_ap, fNot_ap, fIf_ap, fV_ap, fAndV_ap, fOrV_ap, fL_ap, fDisp_ap, fSeq_ap, fEnum_ap, fZip_ap, gSh_ap, gTupF_ap, fLc_ap, fYes_ap, fNil_ap, fThen_ap, fAsg_ap, fOwn_ap, fAsgT_ap, fRet_ap, fRetF_ap, fRetN_ap, fBk_ap, fCt_ap, fDrop_ap, fIfS_ap, fFor_ap, fCallD_ap, fG1_ap, fIsi_ap, fSl_ap, fSlF_ap, fD_ap, fOwnD_ap, fDc_ap, fT_ap, fOrT_ap, fAndT_ap, fOrF_ap, storeD_ap, fPut_ap, fCallO_ap, fCallL_ap, appD_ap, fApp_ap, fDg_ap, fNegI_ap, fPar_ap, fCallKw_ap, fChain_ap, fGet2_ap, fGet1_ap, fWalk_ap, fNotT_ap, fNotV_ap, fG1F_ap, fOpF_ap, fCallF_ap, runD_ap, runO_ap, Option.bind_assoc, loopF_nil, loopF_cons, loopLc_nil, loopLc_cons, loopW_succ, items_list, items_tuple, items_sq, tupD_list, tupD_tuple, tupD_sq, lenD_list, lenD_tuple, lenD_sq, intD_int, intD_bool, absD_int, truD_none, truD_bool, truD_int, truD_list, truD_tuple, truD_sq, gIx_int, asB_bool, g1_one, g1L_one, g2i_two, gInt_two, res_d, res_bor, fz_d, fz_bor, andThen_nx, andThen_rt, andThen_ro, andThen_bk, andThen_ct, again_nx, again_ct, again_bk, again_rt, again_ro, ended_rt, ended_nx, ended_ro, endedO_ro, fzs, eA, ress, outsOf, argsD, setOuts, gsCons, gsNil, argEnv, wipeE, restE, turnLc, maxD, minD, plus_int, sub_int, int_eq, int_ne, int_lt, int_le, int_gt, int_ge, oNone, oSome, pick, atI_0, atI_1, atI_2]
  apply loop_any_k (fun x => keepsT s x) (.bool true) (fun env => ∃ x, env = [Sl.sh (eSpot a s), Sl.sh (sq b (List.map (eCond b) c)), x, Sl.no, Sl.no]) ⟨_, rfl⟩
  · rintro x _ env ⟨y, rfl⟩
    simp [fVar_ap, fC_ap, fTup_ap, fLst_ap, fOp_ap, fB_ap, fCall_ap, fAnd_ap, fOr_ap, fNot_ap, fIf_ap, fV_ap, fAndV_ap, fOrV_ap, fL_ap, fDisp_ap, fSeq_ap, fEnum_ap, fZip_ap, gSh_ap, gTupF_ap, fLc_ap, fYes_ap, fNil_ap, fThen_ap, fAsg_ap, fOwn_ap, fAsgT_ap, fRet_ap, fRetF_ap, fRetN_ap, fBk_ap, fCt_ap, fDrop_ap, fIfS_ap, fFor_ap, fCallD_ap, fG1_ap, fIsi_ap, fSl_ap, fSlF_ap, fD_ap, fOwnD_ap, fDc_ap, fT_ap, fOrT_ap, fAndT_ap, fOrF_ap, storeD_ap, fPut_ap, fCallO_ap, fCallL_ap, appD_ap, fApp_ap, fDg_ap, fNegI_ap, fPar_ap, fCallKw_ap, fChain_ap, fGet2_ap, fGet1_ap, fWalk_ap, fNotT_ap, fNotV_ap, fG1F_ap, fOpF_ap, fCallF_ap, runD_ap, runO_ap, Option.bind_assoc, loopF_nil, loopF_cons, loopLc_nil, loopLc_cons, loopW_succ, items_list, items_tuple, items_sq, tupD_list, tupD_tuple, tupD_sq, lenD_list, lenD_tuple, lenD_sq, intD_int, intD_bool, absD_int, truD_none, truD_bool, truD_int, truD_list, truD_tuple, truD_sq, gIx_int, asB_bool, g1_one, g1L_one, g2i_two, gInt_two, res_d, res_bor, fz_d, fz_bor, andThen_nx, andThen_rt, andThen_ro, andThen_bk, andThen_ct, again_nx, again_ct, again_bk, again_rt, again_ro, ended_rt, ended_nx, ended_ro, endedO_ro, fzs, eA, ress, outsOf, argsD, setOuts, gsCons, gsNil, argEnv, wipeE, restE, turnLc, maxD, minD, plus_int, sub_int, int_eq, int_ne, int_lt, int_le, int_gt, int_ge, oNone, oSome, pick, atI_0, atI_1, atI_2, eCond]
    refine ⟨if keepsT s x = true then .rt (.bool true) [Sl.sh (eSpot a s), Sl.sh (sq b (List.map (eCond b) c)), Sl.sh (eCond b x), Sl.no, Sl.no] else .nx [Sl.sh (eSpot a s), Sl.sh (sq b (List.map (eCond b) c)), Sl.sh (eCond b x), Sl.no, Sl.no], ?_, ?_, ?_⟩
    · apply lc_if_k (τ := fun p => decide (p.1 ∈ s) != p.2) (φ := fun p => eNm p.1)
      · rintro ⟨u, v⟩ _ h
        simp [fVar_ap, fC_ap, fTup_ap, fLst_ap, fOp_ap, fB_ap, fCall_ap, fAnd_ap, fOr_ap, fNot_ap, fIf_ap, fV_ap, fAndV_ap, fOrV_ap, fL_ap, fDisp_ap, fSeq_ap, fEnum_ap, fZip_ap, gSh_ap, gTupF_ap, fLc_ap, fYes_ap, fNil_ap, fThen_ap, fAsg_ap, fOwn_ap, fAsgT_ap, fRet_ap, fRetF_ap, fRetN_ap, fBk_ap, fCt_ap, fDrop_ap, fIfS_ap, fFor_ap, fCallD_ap, fG1_ap, fIsi_ap, fSl_ap, fSlF_ap, fD_ap, fOwnD_ap, fDc_ap, fT_ap, fOrT_ap, fAndT_ap, fOrF_ap, storeD_ap, fPut_ap, fCallO_ap, fCallL_ap, appD_ap, fApp_ap, fDg_ap, fNegI_ap, fPar_ap, fCallKw_ap, fChain_ap, fGet2_ap, fGet1_ap, fWalk_ap, fNotT_ap, fNotV_ap, fG1F_ap, fOpF_ap, fCallF_ap, runD_ap, runO_ap, Option.bind_assoc, loopF_nil, loopF_cons, loopLc_nil, loopLc_cons, loopW_succ, items_list, items_tuple, items_sq, tupD_list, tupD_tuple, tupD_sq, lenD_list, lenD_tuple, lenD_sq, intD_int, intD_bool, absD_int, truD_none, truD_bool, truD_int, truD_list, truD_tuple, truD_sq, gIx_int, asB_bool, g1_one, g1L_one, g2i_two, gInt_two, res_d, res_bor, fz_d, fz_bor, andThen_nx, andThen_rt, andThen_ro, andThen_bk, andThen_ct, again_nx, again_ct, again_bk, again_rt, again_ro, ended_rt, ended_nx, ended_ro, endedO_ro, fzs, eA, ress, outsOf, argsD, setOuts, gsCons, gsNil, argEnv, wipeE, restE, turnLc, maxD, minD, plus_int, sub_int, int_eq, int_ne, int_lt, int_le, int_gt, int_ge, oNone, oSome, pick, atI_0, atI_1, atI_2, ePair, in_nm, ne_bool, eBool]
        simpa using h
      · rintro ⟨u, v⟩ _ h
        simp [fVar_ap, fC_ap, fTup_ap, fLst_ap, fOp_ap, fB_ap, fCall_ap, fAnd_ap, fOr_ap, fNot_ap, fIf_ap, fV_ap, fAndV_ap, fOrV_ap, fL_ap, fDisp_ap, fSeq_ap, fEnum_ap, fZip_ap, gSh_ap, gTupF_ap, fLc_ap, fYes_ap, fNil_ap, fThen_ap, fAsg_ap, fOwn_ap, fAsgT_ap, fRet_ap, fRetF_ap, fRetN_ap, fBk_ap, fCt_ap, fDrop_ap, fIfS_ap, fFor_ap, fCallD_ap, fG1_ap, fIsi_ap, fSl_ap, fSlF_ap, fD_ap, fOwnD_ap, fDc_ap, fT_ap, fOrT_ap, fAndT_ap, fOrF_ap, storeD_ap, fPut_ap, fCallO_ap, fCallL_ap, appD_ap, fApp_ap, fDg_ap, fNegI_ap, fPar_ap, fCallKw_ap, fChain_ap, fGet2_ap, fGet1_ap, fWalk_ap, fNotT_ap, fNotV_ap, fG1F_ap, fOpF_ap, fCallF_ap, runD_ap, runO_ap, Option.bind_assoc, loopF_nil, loopF_cons, loopLc_nil, loopLc_cons, loopW_succ, items_list, items_tuple, items_sq, tupD_list, tupD_tuple, tupD_sq, lenD_list, lenD_tuple, lenD_sq, intD_int, intD_bool, absD_int, truD_none, truD_bool, truD_int, truD_list, truD_tuple, truD_sq, gIx_int, asB_bool, g1_one, g1L_one, g2i_two, gInt_two, res_d, res_bor, fz_d, fz_bor, andThen_nx, andThen_rt, andThen_ro, andThen_bk, andThen_ct, again_nx, again_ct, again_bk, again_rt, again_ro, ended_rt, ended_nx, ended_ro, endedO_ro, fzs, eA, ress, outsOf, argsD, setOuts, gsCons, gsNil, argEnv, wipeE, restE, turnLc, maxD, minD, plus_int, sub_int, int_eq, int_ne, int_lt, int_le, int_gt, int_ge, oNone, oSome, pick, atI_0, atI_1, atI_2, ePair, in_nm, ne_bool, eBool]
        simpa using h
      · have e := eq_nil_map (enc := eNm) enc_nm (by decide) (fun p : Nm × Bool => p.1) (x.filter fun p => decide (p.1 ∈ s) != p.2)
        have k : (x.filter fun p => decide (p.1 ∈ s) != p.2).isEmpty = keepsT s x := by
          rw [Bool.eq_iff_iff, List.isEmpty_iff, List.filter_eq_nil_iff]
          simp [keepsT]
        rw [k] at e
        dsimp only
        rw [e]
        cases keepsT s x <;> simp [fVar_ap, fC_ap, fTup_ap, fLst_ap, fOp_ap, fB_ap, fCall_ap, fAnd_ap, fOr_ap, fNot_ap, fIf_ap, fV_ap, fAndV_ap, fOrV_ap, fL_ap, fDisp_ap, fSeq_ap, fEnum_ap, fZip_ap, gSh_ap, gTupF_ap, fLc_ap, fYes_ap, fNil_ap, fThen_ap, fAsg_ap, fOwn_ap, fAsgT_ap, fRet_ap, fRetF_ap, fRetN_ap, fBk_ap, fCt_ap, fDrop_ap, fIfS_ap, fFor_ap, fCallD_ap, fG1_ap, fIsi_ap, fSl_ap, fSlF_ap, fD_ap, fOwnD_ap, fDc_ap, fT_ap, fOrT_ap, fAndT_ap, fOrF_ap, storeD_ap, fPut_ap, fCallO_ap, fCallL_ap, appD_ap, fApp_ap, fDg_ap, fNegI_ap, fPar_ap, fCallKw_ap, fChain_ap, fGet2_ap, fGet1_ap, fWalk_ap, fNotT_ap, fNotV_ap, fG1F_ap, fOpF_ap, fCallF_ap, runD_ap, runO_ap, Option.bind_assoc, loopF_nil, loopF_cons, loopLc_nil, loopLc_cons, loopW_succ, items_list, items_tuple, items_sq, tupD_list, tupD_tuple, tupD_sq, lenD_list, lenD_tuple, lenD_sq, intD_int, intD_bool, absD_int, truD_none, truD_bool, truD_int, truD_list, truD_tuple, truD_sq, gIx_int, asB_bool, g1_one, g1L_one, g2i_two, gInt_two, res_d, res_bor, fz_d, fz_bor, andThen_nx, andThen_rt, andThen_ro, andThen_bk, andThen_ct, again_nx, again_ct, again_bk, again_rt, again_ro, ended_rt, ended_nx, ended_ro, endedO_ro, fzs, eA, ress, outsOf, argsD, setOuts, gsCons, gsNil, argEnv, wipeE, restE, turnLc, maxD, minD, plus_int, sub_int, int_eq, int_ne, int_lt, int_le, int_gt, int_ge, oNone, oSome, pick, atI_0, atI_1, atI_2, eCond]
    · intro h
      simp [h]
    · intro h
      simp [h]
  · rintro h e ⟨x, rfl⟩
    simp [fVar_ap, fC_ap, fTup_ap, fLst_ap, fOp_ap, fB_ap, fCall_ap, fAnd_ap, fOr_ap, fNot_ap, fIf_ap, fV_ap, fAndV_ap, fOrV_ap, fL_ap, fDisp_ap, fSeq_ap, fEnum_ap, fZip_ap, gSh_ap, gTupF_ap, fLc_ap, fYes_ap, fNil_ap, fThen_ap, fAsg_ap, fOwn_ap, fAsgT_ap, fRet_ap, fRetF_ap, fRetN_ap, fBk_ap, fCt_ap, fDrop_ap, fIfS_ap, fFor_ap, fCallD_ap, fG1_ap, fIsi_ap, fSl_ap, fSlF_ap, fD_ap, fOwnD_ap, fDc_ap, fT_ap, fOrT_ap, fAndT_ap, fOrF_ap, storeD_ap, fPut_ap, fCallO_ap, fCallL_ap, appD_ap, fApp_ap, fDg_ap, fNegI_ap, fPar_ap, fCallKw_ap, fChain_ap, fGet2_ap, fGet1_ap, fWalk_ap, fNotT_ap, fNotV_ap, fG1F_ap, fOpF_ap, fCallF_ap, runD_ap, runO_ap, Option.bind_assoc, loopF_nil, loopF_cons, loopLc_nil, loopLc_cons, loopW_succ, items_list, items_tuple, items_sq, tupD_list, tupD_tuple, tupD_sq, lenD_list, lenD_tuple, lenD_sq, intD_int, intD_bool, absD_int, truD_none, truD_bool, truD_int, truD_list, truD_tuple, truD_sq, gIx_int, asB_bool, g1_one, g1L_one, g2i_two, gInt_two, res_d, res_bor, fz_d, fz_bor, andThen_nx, andThen_rt, andThen_ro, andThen_bk, andThen_ct, again_nx, again_ct, again_bk, again_rt, again_ro, ended_rt, ended_nx, ended_ro, endedO_ro, fzs, eA, ress, outsOf, argsD, setOuts, gsCons, gsNil, argEnv, wipeE, restE, turnLc, maxD, minD, plus_int, sub_int, int_eq, int_ne, int_lt, int_le, int_gt, int_ge, oNone, oSome, pick, atI_0, atI_1, atI_2]
    exact h
  · rintro h e ⟨x, rfl⟩
    simp [fVar_ap, fC_ap, fTup_ap, fLst_ap, fOp_ap, fB_ap, fCall_ap, fAnd_ap, fOr_ap, fNot_ap, fIf_ap, fV_ap, fAndV_ap, fOrV_ap, fL_ap, fDisp_ap, fSeq_ap, fEnum_ap, fZip_ap, gSh_ap, gTupF_ap, fLc_ap, fYes_ap, fNil_ap, fThen_ap, fAsg_ap, fOwn_ap, fAsgT_ap, fRet_ap, fRetF_ap, fRetN_ap, fBk_ap, fCt_ap, fDrop_ap, fIfS_ap, fFor_ap, fCallD_ap, fG1_ap, fIsi_ap, fSl_ap, fSlF_ap, fD_ap, fOwnD_ap, fDc_ap, fT_ap, fOrT_ap, fAndT_ap, fOrF_ap, storeD_ap, fPut_ap, fCallO_ap, fCallL_ap, appD_ap, fApp_ap, fDg_ap, fNegI_ap, fPar_ap, fCallKw_ap, fChain_ap, fGet2_ap, fGet1_ap, fWalk_ap, fNotT_ap, fNotV_ap, fG1F_ap, fOpF_ap, fCallF_ap, runD_ap, runO_ap, Option.bind_assoc, loopF_nil, loopF_cons, loopLc_nil, loopLc_cons, loopW_succ, items_list, items_tuple, items_sq, tupD_list, tupD_tuple, tupD_sq, lenD_list, lenD_tuple, lenD_sq, intD_int, intD_bool, absD_int, truD_none, truD_bool, truD_int, truD_list, truD_tuple, truD_sq, gIx_int, asB_bool, g1_one, g1L_one, g2i_two, gInt_two, res_d, res_bor, fz_d, fz_bor, andThen_nx, andThen_rt, andThen_ro, andThen_bk, andThen_ct, again_nx, again_ct, again_bk, again_rt, again_ro, ended_rt, ended_nx, ended_ro, endedO_ro, fzs, eA, ress, outsOf, argsD, setOuts, gsCons, gsNil, argEnv, wipeE, restE, turnLc, maxD, minD, plus_int, sub_int, int_eq, int_ne, int_lt, int_le, int_gt, int_ge, oNone, oSome, pick, atI_0, atI_1, atI_2]
    exact h
/-! spots -/
def subsT (areas : List Nm) : List Spot := areas.foldl (fun acc x => acc ++ acc.map fun s => s ++ [x]) [[]]
theorem subs_snoc (as : List Nm) (x : Nm) : subsT (as ++ [x]) = subsT as ++ (subsT as).map fun s => s ++ [x] := by
  simp [subsT, List.foldl_append]
theorem subs_gen : ∀ (as : List Nm) (acc : List Spot) (done : List Nm), (∀ s ∈ acc, s.Sublist done) → (∀ s ∈ acc, ∀ t ∈ acc, (∀ x ∈ done, (x ∈ s ↔ x ∈ t)) → s = t) → acc.Nodup → (done ++ as).Nodup →
    (∀ s ∈ as.foldl (fun acc x => acc ++ acc.map fun s => s ++ [x]) acc, s.Sublist (done ++ as)) ∧
    (∀ s ∈ as.foldl (fun acc x => acc ++ acc.map fun s => s ++ [x]) acc, ∀ t ∈ as.foldl (fun acc x => acc ++ acc.map fun s => s ++ [x]) acc, (∀ x ∈ done ++ as, (x ∈ s ↔ x ∈ t)) → s = t) ∧
    (as.foldl (fun acc x => acc ++ acc.map fun s => s ++ [x]) acc).Nodup
  | [], acc, done, h1, h2, h3, _ => by simpa using ⟨h1, h2, h3⟩
  | a :: as, acc, done, h1, h2, h3, h4 => by
    have hn : a ∉ done := fun m => by
      have := List.nodup_append.mp h4
      exact this.2.2 a m a (by simp) rfl
    have ns : ∀ s ∈ acc, a ∉ s := fun s hs m => hn ((h1 s hs).subset m)
    have ih := subs_gen as (acc ++ acc.map fun s => s ++ [a]) (done ++ [a]) ?_ ?_ ?_ (by simpa using h4)
    · simpa using ih
    · intro s hs
      rcases List.mem_append.mp hs with hs | hs
      · exact (h1 s hs).trans (List.sublist_append_left _ _)
      · obtain ⟨u, hu, rfl⟩ := List.mem_map.mp hs
        exact (h1 u hu).append (List.Sublist.refl _)
    · intro s hs t ht e
      have ea := e a (by simp)
      have ed : ∀ x ∈ done, (x ∈ s ↔ x ∈ t) := fun x hx => e x (by simp [hx])
      rcases List.mem_append.mp hs with hs | hs <;> rcases List.mem_append.mp ht with ht | ht
      · exact h2 s hs t ht ed
      · obtain ⟨u, hu, rfl⟩ := List.mem_map.mp ht
        exact absurd (ea.mpr (by simp)) (ns s hs)
      · obtain ⟨u, hu, rfl⟩ := List.mem_map.mp hs
        exact absurd (ea.mp (by simp)) (ns t ht)
      · obtain ⟨u, hu, rfl⟩ := List.mem_map.mp hs
        obtain ⟨v, hv, rfl⟩ := List.mem_map.mp ht
        rw [h2 u hu v hv fun x hx => by
          have := ed x hx
          have ne : x ≠ a := fun z => hn (z ▸ hx)
          simpa [ne] using this]
    · refine List.nodup_append.mpr ⟨h3, ?_, ?_⟩
      · exact List.Pairwise.map _ (fun u v n e => n (by simpa using e)) h3
      · intro s hs t ht e
        obtain ⟨u, hu, rfl⟩ := List.mem_map.mp ht
        exact ns s hs (by rw [e]; simp)
theorem subs_all {as : List Nm} (h : as.Nodup) : (∀ s ∈ subsT as, s.Sublist as) ∧ (∀ s ∈ subsT as, ∀ t ∈ subsT as, (∀ x ∈ as, (x ∈ s ↔ x ∈ t)) → s = t) ∧ (subsT as).Nodup :=
  subs_gen as [[]] [] (by simp) (by simp) (by simp) (by simpa using h)
theorem subs_len (as : List Nm) : (subsT as).length = 2 ^ as.length := by
  have : ∀ (as : List Nm) (acc : List Spot), (as.foldl (fun acc x => acc ++ acc.map fun s => s ++ [x]) acc).length = acc.length * 2 ^ as.length := by
    intro as
    induction as with
    | nil => intro acc; simp
    | cons a as ih =>
      intro acc
      rw [List.foldl_cons, ih]
      simp [Nat.pow_succ]
      have : (acc.length + acc.length) * 2 ^ as.length = acc.length * (2 ^ as.length * 2) := by
        rw [← Nat.two_mul, Nat.mul_comm 2, Nat.mul_assoc, Nat.mul_comm 2]
      exact this
  have := this as [[]]
  unfold subsT
  rw [this]
  simp
theorem subs_short : ∀ (as : List Nm) (acc : List Spot) (n : Nat), (∀ s ∈ acc, s.length ≤ n) → ∀ s ∈ as.foldl (fun acc x => acc ++ acc.map fun s => s ++ [x]) acc, s.length ≤ n + as.length
  | [], acc, n, h, s, hs => by simpa using h s hs
  | a :: as, acc, n, h, s, hs => by
    have := subs_short as (acc ++ acc.map fun s => s ++ [a]) (n + 1) (fun s hs => by
      rcases List.mem_append.mp hs with hs | hs
      · have := h s hs
        omega
      · obtain ⟨u, hu, rfl⟩ := List.mem_map.mp hs
        have := h u hu
        simp
        omega) s hs
    simp
    omega
def spotsT (areas : List Nm) : List Spot := sortX (eSpot true) (subsT areas)
theorem spot_tup (s : Spot) : isTup (eSpot true s) = true := rfl
theorem plus_spot {s : Spot} {x : Nm} (h : s.length ≤ 100) : gPlus (eSpot true s) (.tuple [eNm x]) = some (eSpot true (s ++ [x])) := by
  unfold eSpot sq
  rw [if_pos rfl, plus_tup (by simp; omega)]
  simp
theorem pow_le {n : Nat} (h : n ≤ 8) : 2 ^ n ≤ 256 := Nat.pow_le_pow_right (by decide) h
theorem all_parts_F (a : Bool) (areas : List Nm) (h : areas.length ≤ 8) : F_all_parts [eSpot a areas] = some (eLand true (spotsT areas), []) := by
  simp only [F_all_parts, f_all_parts, eSpot]
  simp [fVar_ap, fC_ap, fTup_ap, fLst_ap, fOp_ap, fB_ap, fCall_ap, fAnd_ap, fOr_ap, fNot_ap, fIf_ap, fV_ap, fAndV_ap, fOrV_ap, fL_ap, fDisp_ap, fSeq_ap, fEnum_ap, fZip_ap, gSh_ap, gTupF_ap, fLc_ap, fYes_ap, fNil_ap, fThen_ap, fAsg_ap, fOwn_ap, fAsgT_ap, fRet_ap, fRetF_ap, fRetN_ap, fBk_ap, fCt_ap, fDrop_ap, fIfS_ap, fFor_ap, fCallD_ap, fG1_ap, fIsi_ap, fSl_ap, fSlF_ap, fD_ap, fOwnD_ap, fDc_ap, fT_ap, fOrT_ap, fAndT_ap, fOrF_ap, storeD_ap, fPut_ap, fCallO_ap, fCallL_ap, appD_ap, fApp_ap, fDg_ap, fNegI_ap, fPar_ap, fCallKw_ap, fChain_ap, fGet2_ap, fGet1_ap, fWalk_ap, fNotT_ap, fNotV_ap, fG1F_ap, fOpF_ap, fCallF_ap, runD_ap, runO_ap, Option.bind_assoc, loopF_nil, loopF_cons, loopLc_nil, loopLc_cons, loopW_succ, items_list, items_tuple, items_sq, tupD_list, tupD_tuple, tupD_sq, lenD_list, lenD_tuple, lenD_sq, intD_int, intD_bool, absD_int, truD_none, truD_bool, truD_int, truD_list, truD_tuple, truD_sq, gIx_int, asB_bool, g1_one, g1L_one, g2i_two, gInt_two, res_d, res_bor, fz_d, fz_bor, andThen_nx, andThen_rt, andThen_ro, andThen_bk, andThen_ct, again_nx, again_ct, again_bk, again_rt, again_ro, ended_rt, ended_nx, ended_ro, endedO_ro, fzs, eA, ress, outsOf, argsD, setOuts, gsCons, gsNil, argEnv, wipeE, restE, turnLc, maxD, minD, plus_int, sub_int, int_eq, int_ne, int_lt, int_le, int_gt, int_ge, oNone, oSome, pick, atI_0, atI_1, atI_2]
  apply loop_inv_k (I := fun pre env => ∃ x, env = [Sl.sh (sq a (areas.map eNm)), .sh (.list ((subsT pre).map (eSpot true))), x, .no])
  · exact ⟨_, rfl⟩
  · rintro pre x post env e ⟨u, rfl⟩
    have hl : pre.length + 1 ≤ 8 := by
      rw [← e] at h
      simp at h
      omega
    have hp := pow_le (n := pre.length) (by omega)
    refine ⟨_, ?_, .sh (eNm x), rfl⟩
    simp [fVar_ap, fC_ap, fTup_ap, fLst_ap, fOp_ap, fB_ap, fCall_ap, fAnd_ap, fOr_ap, fNot_ap, fIf_ap, fV_ap, fAndV_ap, fOrV_ap, fL_ap, fDisp_ap, fSeq_ap, fEnum_ap, fZip_ap, gSh_ap, gTupF_ap, fLc_ap, fYes_ap, fNil_ap, fThen_ap, fAsg_ap, fOwn_ap, fAsgT_ap, fRet_ap, fRetF_ap, fRetN_ap, fBk_ap, fCt_ap, fDrop_ap, fIfS_ap, fFor_ap, fCallD_ap, fG1_ap, fIsi_ap, fSl_ap, fSlF_ap, fD_ap, fOwnD_ap, fDc_ap, fT_ap, fOrT_ap, fAndT_ap, fOrF_ap, storeD_ap, fPut_ap, fCallO_ap, fCallL_ap, appD_ap, fApp_ap, fDg_ap, fNegI_ap, fPar_ap, fCallKw_ap, fChain_ap, fGet2_ap, fGet1_ap, fWalk_ap, fNotT_ap, fNotV_ap, fG1F_ap, fOpF_ap, fCallF_ap, runD_ap, runO_ap, Option.bind_assoc, loopF_nil, loopF_cons, loopLc_nil, loopLc_cons, loopW_succ, items_list, items_tuple, items_sq, tupD_list, tupD_tuple, tupD_sq, lenD_list, lenD_tuple, lenD_sq, intD_int, intD_bool, absD_int, truD_none, truD_bool, truD_int, truD_list, truD_tuple, truD_sq, gIx_int, asB_bool, g1_one, g1L_one, g2i_two, gInt_two, res_d, res_bor, fz_d, fz_bor, andThen_nx, andThen_rt, andThen_ro, andThen_bk, andThen_ct, again_nx, again_ct, again_bk, again_rt, again_ro, ended_rt, ended_nx, ended_ro, endedO_ro, fzs, eA, ress, outsOf, argsD, setOuts, gsCons, gsNil, argEnv, wipeE, restE, turnLc, maxD, minD, plus_int, sub_int, int_eq, int_ne, int_lt, int_le, int_gt, int_ge, oNone, oSome, pick, atI_0, atI_1, atI_2]
    apply lc_all_k (φ := fun s => eSpot true (s ++ [x]))
    · intro s hs
      have := subs_short pre [[]] 0 (by simp) s hs
      simp [fVar_ap, fC_ap, fTup_ap, fLst_ap, fOp_ap, fB_ap, fCall_ap, fAnd_ap, fOr_ap, fNot_ap, fIf_ap, fV_ap, fAndV_ap, fOrV_ap, fL_ap, fDisp_ap, fSeq_ap, fEnum_ap, fZip_ap, gSh_ap, gTupF_ap, fLc_ap, fYes_ap, fNil_ap, fThen_ap, fAsg_ap, fOwn_ap, fAsgT_ap, fRet_ap, fRetF_ap, fRetN_ap, fBk_ap, fCt_ap, fDrop_ap, fIfS_ap, fFor_ap, fCallD_ap, fG1_ap, fIsi_ap, fSl_ap, fSlF_ap, fD_ap, fOwnD_ap, fDc_ap, fT_ap, fOrT_ap, fAndT_ap, fOrF_ap, storeD_ap, fPut_ap, fCallO_ap, fCallL_ap, appD_ap, fApp_ap, fDg_ap, fNegI_ap, fPar_ap, fCallKw_ap, fChain_ap, fGet2_ap, fGet1_ap, fWalk_ap, fNotT_ap, fNotV_ap, fG1F_ap, fOpF_ap, fCallF_ap, runD_ap, runO_ap, Option.bind_assoc, loopF_nil, loopF_cons, loopLc_nil, loopLc_cons, loopW_succ, items_list, items_tuple, items_sq, tupD_list, tupD_tuple, tupD_sq, lenD_list, lenD_tuple, lenD_sq, intD_int, intD_bool, absD_int, truD_none, truD_bool, truD_int, truD_list, truD_tuple, truD_sq, gIx_int, asB_bool, g1_one, g1L_one, g2i_two, gInt_two, res_d, res_bor, fz_d, fz_bor, andThen_nx, andThen_rt, andThen_ro, andThen_bk, andThen_ct, again_nx, again_ct, again_bk, again_rt, again_ro, ended_rt, ended_nx, ended_ro, endedO_ro, fzs, eA, ress, outsOf, argsD, setOuts, gsCons, gsNil, argEnv, wipeE, restE, turnLc, maxD, minD, plus_int, sub_int, int_eq, int_ne, int_lt, int_le, int_gt, int_ge, oNone, oSome, pick, atI_0, atI_1, atI_2, plus_spot (s := s) (x := x) (by omega)]
    · simp [fVar_ap, fC_ap, fTup_ap, fLst_ap, fOp_ap, fB_ap, fCall_ap, fAnd_ap, fOr_ap, fNot_ap, fIf_ap, fV_ap, fAndV_ap, fOrV_ap, fL_ap, fDisp_ap, fSeq_ap, fEnum_ap, fZip_ap, gSh_ap, gTupF_ap, fLc_ap, fYes_ap, fNil_ap, fThen_ap, fAsg_ap, fOwn_ap, fAsgT_ap, fRet_ap, fRetF_ap, fRetN_ap, fBk_ap, fCt_ap, fDrop_ap, fIfS_ap, fFor_ap, fCallD_ap, fG1_ap, fIsi_ap, fSl_ap, fSlF_ap, fD_ap, fOwnD_ap, fDc_ap, fT_ap, fOrT_ap, fAndT_ap, fOrF_ap, storeD_ap, fPut_ap, fCallO_ap, fCallL_ap, appD_ap, fApp_ap, fDg_ap, fNegI_ap, fPar_ap, fCallKw_ap, fChain_ap, fGet2_ap, fGet1_ap, fWalk_ap, fNotT_ap, fNotV_ap, fG1F_ap, fOpF_ap, fCallF_ap, runD_ap, runO_ap, Option.bind_assoc, loopF_nil, loopF_cons, loopLc_nil, loopLc_cons, loopW_succ, items_list, items_tuple, items_sq, tupD_list, tupD_tuple, tupD_sq, lenD_list, lenD_tuple, lenD_sq, intD_int, intD_bool, absD_int, truD_none, truD_bool, truD_int, truD_list, truD_tuple, truD_sq, gIx_int, asB_bool, g1_one, g1L_one, g2i_two, gInt_two, res_d, res_bor, fz_d, fz_bor, andThen_nx, andThen_rt, andThen_ro, andThen_bk, andThen_ct, again_nx, again_ct, again_bk, again_rt, again_ro, ended_rt, ended_nx, ended_ro, endedO_ro, fzs, eA, ress, outsOf, argsD, setOuts, gsCons, gsNil, argEnv, wipeE, restE, turnLc, maxD, minD, plus_int, sub_int, int_eq, int_ne, int_lt, int_le, int_gt, int_ge, oNone, oSome, pick, atI_0, atI_1, atI_2]
      rw [plus_list (by simp [subs_len]; omega)]
      simp [fVar_ap, fC_ap, fTup_ap, fLst_ap, fOp_ap, fB_ap, fCall_ap, fAnd_ap, fOr_ap, fNot_ap, fIf_ap, fV_ap, fAndV_ap, fOrV_ap, fL_ap, fDisp_ap, fSeq_ap, fEnum_ap, fZip_ap, gSh_ap, gTupF_ap, fLc_ap, fYes_ap, fNil_ap, fThen_ap, fAsg_ap, fOwn_ap, fAsgT_ap, fRet_ap, fRetF_ap, fRetN_ap, fBk_ap, fCt_ap, fDrop_ap, fIfS_ap, fFor_ap, fCallD_ap, fG1_ap, fIsi_ap, fSl_ap, fSlF_ap, fD_ap, fOwnD_ap, fDc_ap, fT_ap, fOrT_ap, fAndT_ap, fOrF_ap, storeD_ap, fPut_ap, fCallO_ap, fCallL_ap, appD_ap, fApp_ap, fDg_ap, fNegI_ap, fPar_ap, fCallKw_ap, fChain_ap, fGet2_ap, fGet1_ap, fWalk_ap, fNotT_ap, fNotV_ap, fG1F_ap, fOpF_ap, fCallF_ap, runD_ap, runO_ap, Option.bind_assoc, loopF_nil, loopF_cons, loopLc_nil, loopLc_cons, loopW_succ, items_list, items_tuple, items_sq, tupD_list, tupD_tuple, tupD_sq, lenD_list, lenD_tuple, lenD_sq, intD_int, intD_bool, absD_int, truD_none, truD_bool, truD_int, truD_list, truD_tuple, truD_sq, gIx_int, asB_bool, g1_one, g1L_one, g2i_two, gInt_two, res_d, res_bor, fz_d, fz_bor, andThen_nx, andThen_rt, andThen_ro, andThen_bk, andThen_ct, again_nx, again_ct, again_bk, again_rt, again_ro, ended_rt, ended_nx, ended_ro, endedO_ro, fzs, eA, ress, outsOf, argsD, setOuts, gsCons, gsNil, argEnv, wipeE, restE, turnLc, maxD, minD, plus_int, sub_int, int_eq, int_ne, int_lt, int_le, int_gt, int_ge, oNone, oSome, pick, atI_0, atI_1, atI_2, subs_snoc, Function.comp_def]
  · rintro e ⟨u, rfl⟩
    simp [fVar_ap, fC_ap, fTup_ap, fLst_ap, fOp_ap, fB_ap, fCall_ap, fAnd_ap, fOr_ap, fNot_ap, fIf_ap, fV_ap, fAndV_ap, fOrV_ap, fL_ap, fDisp_ap, fSeq_ap, fEnum_ap, fZip_ap, gSh_ap, gTupF_ap, fLc_ap, fYes_ap, fNil_ap, fThen_ap, fAsg_ap, fOwn_ap, fAsgT_ap, fRet_ap, fRetF_ap, fRetN_ap, fBk_ap, fCt_ap, fDrop_ap, fIfS_ap, fFor_ap, fCallD_ap, fG1_ap, fIsi_ap, fSl_ap, fSlF_ap, fD_ap, fOwnD_ap, fDc_ap, fT_ap, fOrT_ap, fAndT_ap, fOrF_ap, storeD_ap, fPut_ap, fCallO_ap, fCallL_ap, appD_ap, fApp_ap, fDg_ap, fNegI_ap, fPar_ap, fCallKw_ap, fChain_ap, fGet2_ap, fGet1_ap, fWalk_ap, fNotT_ap, fNotV_ap, fG1F_ap, fOpF_ap, fCallF_ap, runD_ap, runO_ap, Option.bind_assoc, loopF_nil, loopF_cons, loopLc_nil, loopLc_cons, loopW_succ, items_list, items_tuple, items_sq, tupD_list, tupD_tuple, tupD_sq, lenD_list, lenD_tuple, lenD_sq, intD_int, intD_bool, absD_int, truD_none, truD_bool, truD_int, truD_list, truD_tuple, truD_sq, gIx_int, asB_bool, g1_one, g1L_one, g2i_two, gInt_two, res_d, res_bor, fz_d, fz_bor, andThen_nx, andThen_rt, andThen_ro, andThen_bk, andThen_ct, again_nx, again_ct, again_bk, again_rt, again_ro, ended_rt, ended_nx, ended_ro, endedO_ro, fzs, eA, ress, outsOf, argsD, setOuts, gsCons, gsNil, argEnv, wipeE, restE, turnLc, maxD, minD, plus_int, sub_int, int_eq, int_ne, int_lt, int_le, int_gt, int_ge, oNone, oSome, pick, atI_0, atI_1, atI_2, sorted_enc (enc_spot true) (.inl spot_tup)]
    rfl
theorem law_spots_F (a : Bool) (areas : List Nm) (h : areas.length ≤ 8) : F__law_spots [eSpot a areas] = some (.list ((spotsT areas).map (eSpot true)), []) := by
  simp only [F__law_spots, f__law_spots, eSpot]
  simp [fVar_ap, fC_ap, fTup_ap, fLst_ap, fOp_ap, fB_ap, fCall_ap, fAnd_ap, fOr_ap, fNot_ap, fIf_ap, fV_ap, fAndV_ap, fOrV_ap, fL_ap, fDisp_ap, fSeq_ap, fEnum_ap, fZip_ap, gSh_ap, gTupF_ap, fLc_ap, fYes_ap, fNil_ap, fThen_ap, fAsg_ap, fOwn_ap, fAsgT_ap, fRet_ap, fRetF_ap, fRetN_ap, fBk_ap, fCt_ap, fDrop_ap, fIfS_ap, fFor_ap, fCallD_ap, fG1_ap, fIsi_ap, fSl_ap, fSlF_ap, fD_ap, fOwnD_ap, fDc_ap, fT_ap, fOrT_ap, fAndT_ap, fOrF_ap, storeD_ap, fPut_ap, fCallO_ap, fCallL_ap, appD_ap, fApp_ap, fDg_ap, fNegI_ap, fPar_ap, fCallKw_ap, fChain_ap, fGet2_ap, fGet1_ap, fWalk_ap, fNotT_ap, fNotV_ap, fG1F_ap, fOpF_ap, fCallF_ap, runD_ap, runO_ap, Option.bind_assoc, loopF_nil, loopF_cons, loopLc_nil, loopLc_cons, loopW_succ, items_list, items_tuple, items_sq, tupD_list, tupD_tuple, tupD_sq, lenD_list, lenD_tuple, lenD_sq, intD_int, intD_bool, absD_int, truD_none, truD_bool, truD_int, truD_list, truD_tuple, truD_sq, gIx_int, asB_bool, g1_one, g1L_one, g2i_two, gInt_two, res_d, res_bor, fz_d, fz_bor, andThen_nx, andThen_rt, andThen_ro, andThen_bk, andThen_ct, again_nx, again_ct, again_bk, again_rt, again_ro, ended_rt, ended_nx, ended_ro, endedO_ro, fzs, eA, ress, outsOf, argsD, setOuts, gsCons, gsNil, argEnv, wipeE, restE, turnLc, maxD, minD, plus_int, sub_int, int_eq, int_ne, int_lt, int_le, int_gt, int_ge, oNone, oSome, pick, atI_0, atI_1, atI_2]
  apply loop_inv_k (I := fun pre env => ∃ x, env = [Sl.sh (sq a (areas.map eNm)), .sh (.list ((subsT pre).map (eSpot true))), x, .no])
  · exact ⟨_, rfl⟩
  · rintro pre x post env e ⟨u, rfl⟩
    have hl : pre.length + 1 ≤ 8 := by
      rw [← e] at h
      simp at h
      omega
    have hp := pow_le (n := pre.length) (by omega)
    refine ⟨_, ?_, .sh (eNm x), rfl⟩
    simp [fVar_ap, fC_ap, fTup_ap, fLst_ap, fOp_ap, fB_ap, fCall_ap, fAnd_ap, fOr_ap, fNot_ap, fIf_ap, fV_ap, fAndV_ap, fOrV_ap, fL_ap, fDisp_ap, fSeq_ap, fEnum_ap, fZip_ap, gSh_ap, gTupF_ap, fLc_ap, fYes_ap, fNil_ap, fThen_ap, fAsg_ap, fOwn_ap, fAsgT_ap, fRet_ap, fRetF_ap, fRetN_ap, fBk_ap, fCt_ap, fDrop_ap, fIfS_ap, fFor_ap, fCallD_ap, fG1_ap, fIsi_ap, fSl_ap, fSlF_ap, fD_ap, fOwnD_ap, fDc_ap, fT_ap, fOrT_ap, fAndT_ap, fOrF_ap, storeD_ap, fPut_ap, fCallO_ap, fCallL_ap, appD_ap, fApp_ap, fDg_ap, fNegI_ap, fPar_ap, fCallKw_ap, fChain_ap, fGet2_ap, fGet1_ap, fWalk_ap, fNotT_ap, fNotV_ap, fG1F_ap, fOpF_ap, fCallF_ap, runD_ap, runO_ap, Option.bind_assoc, loopF_nil, loopF_cons, loopLc_nil, loopLc_cons, loopW_succ, items_list, items_tuple, items_sq, tupD_list, tupD_tuple, tupD_sq, lenD_list, lenD_tuple, lenD_sq, intD_int, intD_bool, absD_int, truD_none, truD_bool, truD_int, truD_list, truD_tuple, truD_sq, gIx_int, asB_bool, g1_one, g1L_one, g2i_two, gInt_two, res_d, res_bor, fz_d, fz_bor, andThen_nx, andThen_rt, andThen_ro, andThen_bk, andThen_ct, again_nx, again_ct, again_bk, again_rt, again_ro, ended_rt, ended_nx, ended_ro, endedO_ro, fzs, eA, ress, outsOf, argsD, setOuts, gsCons, gsNil, argEnv, wipeE, restE, turnLc, maxD, minD, plus_int, sub_int, int_eq, int_ne, int_lt, int_le, int_gt, int_ge, oNone, oSome, pick, atI_0, atI_1, atI_2]
    apply lc_all_k (φ := fun s => eSpot true (s ++ [x]))
    · intro s hs
      have := subs_short pre [[]] 0 (by simp) s hs
      simp [fVar_ap, fC_ap, fTup_ap, fLst_ap, fOp_ap, fB_ap, fCall_ap, fAnd_ap, fOr_ap, fNot_ap, fIf_ap, fV_ap, fAndV_ap, fOrV_ap, fL_ap, fDisp_ap, fSeq_ap, fEnum_ap, fZip_ap, gSh_ap, gTupF_ap, fLc_ap, fYes_ap, fNil_ap, fThen_ap, fAsg_ap, fOwn_ap, fAsgT_ap, fRet_ap, fRetF_ap, fRetN_ap, fBk_ap, fCt_ap, fDrop_ap, fIfS_ap, fFor_ap, fCallD_ap, fG1_ap, fIsi_ap, fSl_ap, fSlF_ap, fD_ap, fOwnD_ap, fDc_ap, fT_ap, fOrT_ap, fAndT_ap, fOrF_ap, storeD_ap, fPut_ap, fCallO_ap, fCallL_ap, appD_ap, fApp_ap, fDg_ap, fNegI_ap, fPar_ap, fCallKw_ap, fChain_ap, fGet2_ap, fGet1_ap, fWalk_ap, fNotT_ap, fNotV_ap, fG1F_ap, fOpF_ap, fCallF_ap, runD_ap, runO_ap, Option.bind_assoc, loopF_nil, loopF_cons, loopLc_nil, loopLc_cons, loopW_succ, items_list, items_tuple, items_sq, tupD_list, tupD_tuple, tupD_sq, lenD_list, lenD_tuple, lenD_sq, intD_int, intD_bool, absD_int, truD_none, truD_bool, truD_int, truD_list, truD_tuple, truD_sq, gIx_int, asB_bool, g1_one, g1L_one, g2i_two, gInt_two, res_d, res_bor, fz_d, fz_bor, andThen_nx, andThen_rt, andThen_ro, andThen_bk, andThen_ct, again_nx, again_ct, again_bk, again_rt, again_ro, ended_rt, ended_nx, ended_ro, endedO_ro, fzs, eA, ress, outsOf, argsD, setOuts, gsCons, gsNil, argEnv, wipeE, restE, turnLc, maxD, minD, plus_int, sub_int, int_eq, int_ne, int_lt, int_le, int_gt, int_ge, oNone, oSome, pick, atI_0, atI_1, atI_2, plus_spot (s := s) (x := x) (by omega)]
    · simp [fVar_ap, fC_ap, fTup_ap, fLst_ap, fOp_ap, fB_ap, fCall_ap, fAnd_ap, fOr_ap, fNot_ap, fIf_ap, fV_ap, fAndV_ap, fOrV_ap, fL_ap, fDisp_ap, fSeq_ap, fEnum_ap, fZip_ap, gSh_ap, gTupF_ap, fLc_ap, fYes_ap, fNil_ap, fThen_ap, fAsg_ap, fOwn_ap, fAsgT_ap, fRet_ap, fRetF_ap, fRetN_ap, fBk_ap, fCt_ap, fDrop_ap, fIfS_ap, fFor_ap, fCallD_ap, fG1_ap, fIsi_ap, fSl_ap, fSlF_ap, fD_ap, fOwnD_ap, fDc_ap, fT_ap, fOrT_ap, fAndT_ap, fOrF_ap, storeD_ap, fPut_ap, fCallO_ap, fCallL_ap, appD_ap, fApp_ap, fDg_ap, fNegI_ap, fPar_ap, fCallKw_ap, fChain_ap, fGet2_ap, fGet1_ap, fWalk_ap, fNotT_ap, fNotV_ap, fG1F_ap, fOpF_ap, fCallF_ap, runD_ap, runO_ap, Option.bind_assoc, loopF_nil, loopF_cons, loopLc_nil, loopLc_cons, loopW_succ, items_list, items_tuple, items_sq, tupD_list, tupD_tuple, tupD_sq, lenD_list, lenD_tuple, lenD_sq, intD_int, intD_bool, absD_int, truD_none, truD_bool, truD_int, truD_list, truD_tuple, truD_sq, gIx_int, asB_bool, g1_one, g1L_one, g2i_two, gInt_two, res_d, res_bor, fz_d, fz_bor, andThen_nx, andThen_rt, andThen_ro, andThen_bk, andThen_ct, again_nx, again_ct, again_bk, again_rt, again_ro, ended_rt, ended_nx, ended_ro, endedO_ro, fzs, eA, ress, outsOf, argsD, setOuts, gsCons, gsNil, argEnv, wipeE, restE, turnLc, maxD, minD, plus_int, sub_int, int_eq, int_ne, int_lt, int_le, int_gt, int_ge, oNone, oSome, pick, atI_0, atI_1, atI_2]
      rw [plus_list (by simp [subs_len]; omega)]
      simp [fVar_ap, fC_ap, fTup_ap, fLst_ap, fOp_ap, fB_ap, fCall_ap, fAnd_ap, fOr_ap, fNot_ap, fIf_ap, fV_ap, fAndV_ap, fOrV_ap, fL_ap, fDisp_ap, fSeq_ap, fEnum_ap, fZip_ap, gSh_ap, gTupF_ap, fLc_ap, fYes_ap, fNil_ap, fThen_ap, fAsg_ap, fOwn_ap, fAsgT_ap, fRet_ap, fRetF_ap, fRetN_ap, fBk_ap, fCt_ap, fDrop_ap, fIfS_ap, fFor_ap, fCallD_ap, fG1_ap, fIsi_ap, fSl_ap, fSlF_ap, fD_ap, fOwnD_ap, fDc_ap, fT_ap, fOrT_ap, fAndT_ap, fOrF_ap, storeD_ap, fPut_ap, fCallO_ap, fCallL_ap, appD_ap, fApp_ap, fDg_ap, fNegI_ap, fPar_ap, fCallKw_ap, fChain_ap, fGet2_ap, fGet1_ap, fWalk_ap, fNotT_ap, fNotV_ap, fG1F_ap, fOpF_ap, fCallF_ap, runD_ap, runO_ap, Option.bind_assoc, loopF_nil, loopF_cons, loopLc_nil, loopLc_cons, loopW_succ, items_list, items_tuple, items_sq, tupD_list, tupD_tuple, tupD_sq, lenD_list, lenD_tuple, lenD_sq, intD_int, intD_bool, absD_int, truD_none, truD_bool, truD_int, truD_list, truD_tuple, truD_sq, gIx_int, asB_bool, g1_one, g1L_one, g2i_two, gInt_two, res_d, res_bor, fz_d, fz_bor, andThen_nx, andThen_rt, andThen_ro, andThen_bk, andThen_ct, again_nx, again_ct, again_bk, again_rt, again_ro, ended_rt, ended_nx, ended_ro, endedO_ro, fzs, eA, ress, outsOf, argsD, setOuts, gsCons, gsNil, argEnv, wipeE, restE, turnLc, maxD, minD, plus_int, sub_int, int_eq, int_ne, int_lt, int_le, int_gt, int_ge, oNone, oSome, pick, atI_0, atI_1, atI_2, subs_snoc, Function.comp_def]
  · rintro e ⟨u, rfl⟩
    simp [fVar_ap, fC_ap, fTup_ap, fLst_ap, fOp_ap, fB_ap, fCall_ap, fAnd_ap, fOr_ap, fNot_ap, fIf_ap, fV_ap, fAndV_ap, fOrV_ap, fL_ap, fDisp_ap, fSeq_ap, fEnum_ap, fZip_ap, gSh_ap, gTupF_ap, fLc_ap, fYes_ap, fNil_ap, fThen_ap, fAsg_ap, fOwn_ap, fAsgT_ap, fRet_ap, fRetF_ap, fRetN_ap, fBk_ap, fCt_ap, fDrop_ap, fIfS_ap, fFor_ap, fCallD_ap, fG1_ap, fIsi_ap, fSl_ap, fSlF_ap, fD_ap, fOwnD_ap, fDc_ap, fT_ap, fOrT_ap, fAndT_ap, fOrF_ap, storeD_ap, fPut_ap, fCallO_ap, fCallL_ap, appD_ap, fApp_ap, fDg_ap, fNegI_ap, fPar_ap, fCallKw_ap, fChain_ap, fGet2_ap, fGet1_ap, fWalk_ap, fNotT_ap, fNotV_ap, fG1F_ap, fOpF_ap, fCallF_ap, runD_ap, runO_ap, Option.bind_assoc, loopF_nil, loopF_cons, loopLc_nil, loopLc_cons, loopW_succ, items_list, items_tuple, items_sq, tupD_list, tupD_tuple, tupD_sq, lenD_list, lenD_tuple, lenD_sq, intD_int, intD_bool, absD_int, truD_none, truD_bool, truD_int, truD_list, truD_tuple, truD_sq, gIx_int, asB_bool, g1_one, g1L_one, g2i_two, gInt_two, res_d, res_bor, fz_d, fz_bor, andThen_nx, andThen_rt, andThen_ro, andThen_bk, andThen_ct, again_nx, again_ct, again_bk, again_rt, again_ro, ended_rt, ended_nx, ended_ro, endedO_ro, fzs, eA, ress, outsOf, argsD, setOuts, gsCons, gsNil, argEnv, wipeE, restE, turnLc, maxD, minD, plus_int, sub_int, int_eq, int_ne, int_lt, int_le, int_gt, int_ge, oNone, oSome, pick, atI_0, atI_1, atI_2, sorted_enc (enc_spot true) (.inl spot_tup)]
    rfl
def letT (ch : Chart) : List Spot := (spotsT ch.1).filter fun s => !inT s ch.2
theorem spots_of_F (a : Bool) (areas : List Nm) (h : areas.length ≤ 8) : F_spots_of [eSpot a areas] = some (eLand true (spotsT areas), []) := by
  simp only [F_spots_of, f_spots_of]
  simp [fVar_ap, fC_ap, fTup_ap, fLst_ap, fOp_ap, fB_ap, fCall_ap, fAnd_ap, fOr_ap, fNot_ap, fIf_ap, fV_ap, fAndV_ap, fOrV_ap, fL_ap, fDisp_ap, fSeq_ap, fEnum_ap, fZip_ap, gSh_ap, gTupF_ap, fLc_ap, fYes_ap, fNil_ap, fThen_ap, fAsg_ap, fOwn_ap, fAsgT_ap, fRet_ap, fRetF_ap, fRetN_ap, fBk_ap, fCt_ap, fDrop_ap, fIfS_ap, fFor_ap, fCallD_ap, fG1_ap, fIsi_ap, fSl_ap, fSlF_ap, fD_ap, fOwnD_ap, fDc_ap, fT_ap, fOrT_ap, fAndT_ap, fOrF_ap, storeD_ap, fPut_ap, fCallO_ap, fCallL_ap, appD_ap, fApp_ap, fDg_ap, fNegI_ap, fPar_ap, fCallKw_ap, fChain_ap, fGet2_ap, fGet1_ap, fWalk_ap, fNotT_ap, fNotV_ap, fG1F_ap, fOpF_ap, fCallF_ap, runD_ap, runO_ap, Option.bind_assoc, loopF_nil, loopF_cons, loopLc_nil, loopLc_cons, loopW_succ, items_list, items_tuple, items_sq, tupD_list, tupD_tuple, tupD_sq, lenD_list, lenD_tuple, lenD_sq, intD_int, intD_bool, absD_int, truD_none, truD_bool, truD_int, truD_list, truD_tuple, truD_sq, gIx_int, asB_bool, g1_one, g1L_one, g2i_two, gInt_two, res_d, res_bor, fz_d, fz_bor, andThen_nx, andThen_rt, andThen_ro, andThen_bk, andThen_ct, again_nx, again_ct, again_bk, again_rt, again_ro, ended_rt, ended_nx, ended_ro, endedO_ro, fzs, eA, ress, outsOf, argsD, setOuts, gsCons, gsNil, argEnv, wipeE, restE, turnLc, maxD, minD, plus_int, sub_int, int_eq, int_ne, int_lt, int_le, int_gt, int_ge, oNone, oSome, pick, atI_0, atI_1, atI_2, all_parts_F a areas h]
theorem let_spots_F (a : Bool) (ch : Chart) (h : ch.1.length ≤ 8) : F_let_spots [eChart a ch] = some (eLand true (letT ch), []) := by
  simp only [F_let_spots, f_let_spots, eChart]
  simp [fVar_ap, fC_ap, fTup_ap, fLst_ap, fOp_ap, fB_ap, fCall_ap, fAnd_ap, fOr_ap, fNot_ap, fIf_ap, fV_ap, fAndV_ap, fOrV_ap, fL_ap, fDisp_ap, fSeq_ap, fEnum_ap, fZip_ap, gSh_ap, gTupF_ap, fLc_ap, fYes_ap, fNil_ap, fThen_ap, fAsg_ap, fOwn_ap, fAsgT_ap, fRet_ap, fRetF_ap, fRetN_ap, fBk_ap, fCt_ap, fDrop_ap, fIfS_ap, fFor_ap, fCallD_ap, fG1_ap, fIsi_ap, fSl_ap, fSlF_ap, fD_ap, fOwnD_ap, fDc_ap, fT_ap, fOrT_ap, fAndT_ap, fOrF_ap, storeD_ap, fPut_ap, fCallO_ap, fCallL_ap, appD_ap, fApp_ap, fDg_ap, fNegI_ap, fPar_ap, fCallKw_ap, fChain_ap, fGet2_ap, fGet1_ap, fWalk_ap, fNotT_ap, fNotV_ap, fG1F_ap, fOpF_ap, fCallF_ap, runD_ap, runO_ap, Option.bind_assoc, loopF_nil, loopF_cons, loopLc_nil, loopLc_cons, loopW_succ, items_list, items_tuple, items_sq, tupD_list, tupD_tuple, tupD_sq, lenD_list, lenD_tuple, lenD_sq, intD_int, intD_bool, absD_int, truD_none, truD_bool, truD_int, truD_list, truD_tuple, truD_sq, gIx_int, asB_bool, g1_one, g1L_one, g2i_two, gInt_two, res_d, res_bor, fz_d, fz_bor, andThen_nx, andThen_rt, andThen_ro, andThen_bk, andThen_ct, again_nx, again_ct, again_bk, again_rt, again_ro, ended_rt, ended_nx, ended_ro, endedO_ro, fzs, eA, ress, outsOf, argsD, setOuts, gsCons, gsNil, argEnv, wipeE, restE, turnLc, maxD, minD, plus_int, sub_int, int_eq, int_ne, int_lt, int_le, int_gt, int_ge, oNone, oSome, pick, atI_0, atI_1, atI_2, spots_of_F a ch.1 h, eLand]
  apply lc_if_k (τ := fun s => !inT s ch.2) (φ := eSpot true)
  · intro s _ ht
    simp at ht
    simp [fVar_ap, fC_ap, fTup_ap, fLst_ap, fOp_ap, fB_ap, fCall_ap, fAnd_ap, fOr_ap, fNot_ap, fIf_ap, fV_ap, fAndV_ap, fOrV_ap, fL_ap, fDisp_ap, fSeq_ap, fEnum_ap, fZip_ap, gSh_ap, gTupF_ap, fLc_ap, fYes_ap, fNil_ap, fThen_ap, fAsg_ap, fOwn_ap, fAsgT_ap, fRet_ap, fRetF_ap, fRetN_ap, fBk_ap, fCt_ap, fDrop_ap, fIfS_ap, fFor_ap, fCallD_ap, fG1_ap, fIsi_ap, fSl_ap, fSlF_ap, fD_ap, fOwnD_ap, fDc_ap, fT_ap, fOrT_ap, fAndT_ap, fOrF_ap, storeD_ap, fPut_ap, fCallO_ap, fCallL_ap, appD_ap, fApp_ap, fDg_ap, fNegI_ap, fPar_ap, fCallKw_ap, fChain_ap, fGet2_ap, fGet1_ap, fWalk_ap, fNotT_ap, fNotV_ap, fG1F_ap, fOpF_ap, fCallF_ap, runD_ap, runO_ap, Option.bind_assoc, loopF_nil, loopF_cons, loopLc_nil, loopLc_cons, loopW_succ, items_list, items_tuple, items_sq, tupD_list, tupD_tuple, tupD_sq, lenD_list, lenD_tuple, lenD_sq, intD_int, intD_bool, absD_int, truD_none, truD_bool, truD_int, truD_list, truD_tuple, truD_sq, gIx_int, asB_bool, g1_one, g1L_one, g2i_two, gInt_two, res_d, res_bor, fz_d, fz_bor, andThen_nx, andThen_rt, andThen_ro, andThen_bk, andThen_ct, again_nx, again_ct, again_bk, again_rt, again_ro, ended_rt, ended_nx, ended_ro, endedO_ro, fzs, eA, ress, outsOf, argsD, setOuts, gsCons, gsNil, argEnv, wipeE, restE, turnLc, maxD, minD, plus_int, sub_int, int_eq, int_ne, int_lt, int_le, int_gt, int_ge, oNone, oSome, pick, atI_0, atI_1, atI_2, is_in_F, ht]
  · intro s _ ht
    simp at ht
    simp [fVar_ap, fC_ap, fTup_ap, fLst_ap, fOp_ap, fB_ap, fCall_ap, fAnd_ap, fOr_ap, fNot_ap, fIf_ap, fV_ap, fAndV_ap, fOrV_ap, fL_ap, fDisp_ap, fSeq_ap, fEnum_ap, fZip_ap, gSh_ap, gTupF_ap, fLc_ap, fYes_ap, fNil_ap, fThen_ap, fAsg_ap, fOwn_ap, fAsgT_ap, fRet_ap, fRetF_ap, fRetN_ap, fBk_ap, fCt_ap, fDrop_ap, fIfS_ap, fFor_ap, fCallD_ap, fG1_ap, fIsi_ap, fSl_ap, fSlF_ap, fD_ap, fOwnD_ap, fDc_ap, fT_ap, fOrT_ap, fAndT_ap, fOrF_ap, storeD_ap, fPut_ap, fCallO_ap, fCallL_ap, appD_ap, fApp_ap, fDg_ap, fNegI_ap, fPar_ap, fCallKw_ap, fChain_ap, fGet2_ap, fGet1_ap, fWalk_ap, fNotT_ap, fNotV_ap, fG1F_ap, fOpF_ap, fCallF_ap, runD_ap, runO_ap, Option.bind_assoc, loopF_nil, loopF_cons, loopLc_nil, loopLc_cons, loopW_succ, items_list, items_tuple, items_sq, tupD_list, tupD_tuple, tupD_sq, lenD_list, lenD_tuple, lenD_sq, intD_int, intD_bool, absD_int, truD_none, truD_bool, truD_int, truD_list, truD_tuple, truD_sq, gIx_int, asB_bool, g1_one, g1L_one, g2i_two, gInt_two, res_d, res_bor, fz_d, fz_bor, andThen_nx, andThen_rt, andThen_ro, andThen_bk, andThen_ct, again_nx, again_ct, again_bk, again_rt, again_ro, ended_rt, ended_nx, ended_ro, endedO_ro, fzs, eA, ress, outsOf, argsD, setOuts, gsCons, gsNil, argEnv, wipeE, restE, turnLc, maxD, minD, plus_int, sub_int, int_eq, int_ne, int_lt, int_le, int_gt, int_ge, oNone, oSome, pick, atI_0, atI_1, atI_2, is_in_F, ht]
  · simp [fVar_ap, fC_ap, fTup_ap, fLst_ap, fOp_ap, fB_ap, fCall_ap, fAnd_ap, fOr_ap, fNot_ap, fIf_ap, fV_ap, fAndV_ap, fOrV_ap, fL_ap, fDisp_ap, fSeq_ap, fEnum_ap, fZip_ap, gSh_ap, gTupF_ap, fLc_ap, fYes_ap, fNil_ap, fThen_ap, fAsg_ap, fOwn_ap, fAsgT_ap, fRet_ap, fRetF_ap, fRetN_ap, fBk_ap, fCt_ap, fDrop_ap, fIfS_ap, fFor_ap, fCallD_ap, fG1_ap, fIsi_ap, fSl_ap, fSlF_ap, fD_ap, fOwnD_ap, fDc_ap, fT_ap, fOrT_ap, fAndT_ap, fOrF_ap, storeD_ap, fPut_ap, fCallO_ap, fCallL_ap, appD_ap, fApp_ap, fDg_ap, fNegI_ap, fPar_ap, fCallKw_ap, fChain_ap, fGet2_ap, fGet1_ap, fWalk_ap, fNotT_ap, fNotV_ap, fG1F_ap, fOpF_ap, fCallF_ap, runD_ap, runO_ap, Option.bind_assoc, loopF_nil, loopF_cons, loopLc_nil, loopLc_cons, loopW_succ, items_list, items_tuple, items_sq, tupD_list, tupD_tuple, tupD_sq, lenD_list, lenD_tuple, lenD_sq, intD_int, intD_bool, absD_int, truD_none, truD_bool, truD_int, truD_list, truD_tuple, truD_sq, gIx_int, asB_bool, g1_one, g1L_one, g2i_two, gInt_two, res_d, res_bor, fz_d, fz_bor, andThen_nx, andThen_rt, andThen_ro, andThen_bk, andThen_ct, again_nx, again_ct, again_bk, again_rt, again_ro, ended_rt, ended_nx, ended_ro, endedO_ro, fzs, eA, ress, outsOf, argsD, setOuts, gsCons, gsNil, argEnv, wipeE, restE, turnLc, maxD, minD, plus_int, sub_int, int_eq, int_ne, int_lt, int_le, int_gt, int_ge, oNone, oSome, pick, atI_0, atI_1, atI_2]
    rfl
theorem land_of_F (a b : Bool) (ch : Chart) (cut : Cut) (h : ch.1.length ≤ 8) : F_land_of [eChart a ch, eCut b cut] = some (eLand true (landT (letT ch) cut), []) := by
  simp only [F_land_of, f_land_of]
  simp [fVar_ap, fC_ap, fTup_ap, fLst_ap, fOp_ap, fB_ap, fCall_ap, fAnd_ap, fOr_ap, fNot_ap, fIf_ap, fV_ap, fAndV_ap, fOrV_ap, fL_ap, fDisp_ap, fSeq_ap, fEnum_ap, fZip_ap, gSh_ap, gTupF_ap, fLc_ap, fYes_ap, fNil_ap, fThen_ap, fAsg_ap, fOwn_ap, fAsgT_ap, fRet_ap, fRetF_ap, fRetN_ap, fBk_ap, fCt_ap, fDrop_ap, fIfS_ap, fFor_ap, fCallD_ap, fG1_ap, fIsi_ap, fSl_ap, fSlF_ap, fD_ap, fOwnD_ap, fDc_ap, fT_ap, fOrT_ap, fAndT_ap, fOrF_ap, storeD_ap, fPut_ap, fCallO_ap, fCallL_ap, appD_ap, fApp_ap, fDg_ap, fNegI_ap, fPar_ap, fCallKw_ap, fChain_ap, fGet2_ap, fGet1_ap, fWalk_ap, fNotT_ap, fNotV_ap, fG1F_ap, fOpF_ap, fCallF_ap, runD_ap, runO_ap, Option.bind_assoc, loopF_nil, loopF_cons, loopLc_nil, loopLc_cons, loopW_succ, items_list, items_tuple, items_sq, tupD_list, tupD_tuple, tupD_sq, lenD_list, lenD_tuple, lenD_sq, intD_int, intD_bool, absD_int, truD_none, truD_bool, truD_int, truD_list, truD_tuple, truD_sq, gIx_int, asB_bool, g1_one, g1L_one, g2i_two, gInt_two, res_d, res_bor, fz_d, fz_bor, andThen_nx, andThen_rt, andThen_ro, andThen_bk, andThen_ct, again_nx, again_ct, again_bk, again_rt, again_ro, ended_rt, ended_nx, ended_ro, endedO_ro, fzs, eA, ress, outsOf, argsD, setOuts, gsCons, gsNil, argEnv, wipeE, restE, turnLc, maxD, minD, plus_int, sub_int, int_eq, int_ne, int_lt, int_le, int_gt, int_ge, oNone, oSome, pick, atI_0, atI_1, atI_2, let_spots_F a ch h, eLand]
  apply lc_if_k (τ := fun s => inT s cut) (φ := eSpot true)
  · intro s _ ht
    simp [fVar_ap, fC_ap, fTup_ap, fLst_ap, fOp_ap, fB_ap, fCall_ap, fAnd_ap, fOr_ap, fNot_ap, fIf_ap, fV_ap, fAndV_ap, fOrV_ap, fL_ap, fDisp_ap, fSeq_ap, fEnum_ap, fZip_ap, gSh_ap, gTupF_ap, fLc_ap, fYes_ap, fNil_ap, fThen_ap, fAsg_ap, fOwn_ap, fAsgT_ap, fRet_ap, fRetF_ap, fRetN_ap, fBk_ap, fCt_ap, fDrop_ap, fIfS_ap, fFor_ap, fCallD_ap, fG1_ap, fIsi_ap, fSl_ap, fSlF_ap, fD_ap, fOwnD_ap, fDc_ap, fT_ap, fOrT_ap, fAndT_ap, fOrF_ap, storeD_ap, fPut_ap, fCallO_ap, fCallL_ap, appD_ap, fApp_ap, fDg_ap, fNegI_ap, fPar_ap, fCallKw_ap, fChain_ap, fGet2_ap, fGet1_ap, fWalk_ap, fNotT_ap, fNotV_ap, fG1F_ap, fOpF_ap, fCallF_ap, runD_ap, runO_ap, Option.bind_assoc, loopF_nil, loopF_cons, loopLc_nil, loopLc_cons, loopW_succ, items_list, items_tuple, items_sq, tupD_list, tupD_tuple, tupD_sq, lenD_list, lenD_tuple, lenD_sq, intD_int, intD_bool, absD_int, truD_none, truD_bool, truD_int, truD_list, truD_tuple, truD_sq, gIx_int, asB_bool, g1_one, g1L_one, g2i_two, gInt_two, res_d, res_bor, fz_d, fz_bor, andThen_nx, andThen_rt, andThen_ro, andThen_bk, andThen_ct, again_nx, again_ct, again_bk, again_rt, again_ro, ended_rt, ended_nx, ended_ro, endedO_ro, fzs, eA, ress, outsOf, argsD, setOuts, gsCons, gsNil, argEnv, wipeE, restE, turnLc, maxD, minD, plus_int, sub_int, int_eq, int_ne, int_lt, int_le, int_gt, int_ge, oNone, oSome, pick, atI_0, atI_1, atI_2, is_in_F, ht]
  · intro s _ ht
    simp [fVar_ap, fC_ap, fTup_ap, fLst_ap, fOp_ap, fB_ap, fCall_ap, fAnd_ap, fOr_ap, fNot_ap, fIf_ap, fV_ap, fAndV_ap, fOrV_ap, fL_ap, fDisp_ap, fSeq_ap, fEnum_ap, fZip_ap, gSh_ap, gTupF_ap, fLc_ap, fYes_ap, fNil_ap, fThen_ap, fAsg_ap, fOwn_ap, fAsgT_ap, fRet_ap, fRetF_ap, fRetN_ap, fBk_ap, fCt_ap, fDrop_ap, fIfS_ap, fFor_ap, fCallD_ap, fG1_ap, fIsi_ap, fSl_ap, fSlF_ap, fD_ap, fOwnD_ap, fDc_ap, fT_ap, fOrT_ap, fAndT_ap, fOrF_ap, storeD_ap, fPut_ap, fCallO_ap, fCallL_ap, appD_ap, fApp_ap, fDg_ap, fNegI_ap, fPar_ap, fCallKw_ap, fChain_ap, fGet2_ap, fGet1_ap, fWalk_ap, fNotT_ap, fNotV_ap, fG1F_ap, fOpF_ap, fCallF_ap, runD_ap, runO_ap, Option.bind_assoc, loopF_nil, loopF_cons, loopLc_nil, loopLc_cons, loopW_succ, items_list, items_tuple, items_sq, tupD_list, tupD_tuple, tupD_sq, lenD_list, lenD_tuple, lenD_sq, intD_int, intD_bool, absD_int, truD_none, truD_bool, truD_int, truD_list, truD_tuple, truD_sq, gIx_int, asB_bool, g1_one, g1L_one, g2i_two, gInt_two, res_d, res_bor, fz_d, fz_bor, andThen_nx, andThen_rt, andThen_ro, andThen_bk, andThen_ct, again_nx, again_ct, again_bk, again_rt, again_ro, ended_rt, ended_nx, ended_ro, endedO_ro, fzs, eA, ress, outsOf, argsD, setOuts, gsCons, gsNil, argEnv, wipeE, restE, turnLc, maxD, minD, plus_int, sub_int, int_eq, int_ne, int_lt, int_le, int_gt, int_ge, oNone, oSome, pick, atI_0, atI_1, atI_2, is_in_F, ht]
  · simp [fVar_ap, fC_ap, fTup_ap, fLst_ap, fOp_ap, fB_ap, fCall_ap, fAnd_ap, fOr_ap, fNot_ap, fIf_ap, fV_ap, fAndV_ap, fOrV_ap, fL_ap, fDisp_ap, fSeq_ap, fEnum_ap, fZip_ap, gSh_ap, gTupF_ap, fLc_ap, fYes_ap, fNil_ap, fThen_ap, fAsg_ap, fOwn_ap, fAsgT_ap, fRet_ap, fRetF_ap, fRetN_ap, fBk_ap, fCt_ap, fDrop_ap, fIfS_ap, fFor_ap, fCallD_ap, fG1_ap, fIsi_ap, fSl_ap, fSlF_ap, fD_ap, fOwnD_ap, fDc_ap, fT_ap, fOrT_ap, fAndT_ap, fOrF_ap, storeD_ap, fPut_ap, fCallO_ap, fCallL_ap, appD_ap, fApp_ap, fDg_ap, fNegI_ap, fPar_ap, fCallKw_ap, fChain_ap, fGet2_ap, fGet1_ap, fWalk_ap, fNotT_ap, fNotV_ap, fG1F_ap, fOpF_ap, fCallF_ap, runD_ap, runO_ap, Option.bind_assoc, loopF_nil, loopF_cons, loopLc_nil, loopLc_cons, loopW_succ, items_list, items_tuple, items_sq, tupD_list, tupD_tuple, tupD_sq, lenD_list, lenD_tuple, lenD_sq, intD_int, intD_bool, absD_int, truD_none, truD_bool, truD_int, truD_list, truD_tuple, truD_sq, gIx_int, asB_bool, g1_one, g1L_one, g2i_two, gInt_two, res_d, res_bor, fz_d, fz_bor, andThen_nx, andThen_rt, andThen_ro, andThen_bk, andThen_ct, again_nx, again_ct, again_bk, again_rt, again_ro, ended_rt, ended_nx, ended_ro, endedO_ro, fzs, eA, ress, outsOf, argsD, setOuts, gsCons, gsNil, argEnv, wipeE, restE, turnLc, maxD, minD, plus_int, sub_int, int_eq, int_ne, int_lt, int_le, int_gt, int_ge, oNone, oSome, pick, atI_0, atI_1, atI_2]
    rfl
theorem law_let_F (ch : Chart) (h : ch.1.length ≤ 8) : F__law_let [eChart true ch] = some (.list ((letT ch).map (eSpot true)), []) := by
  simp only [F__law_let, f__law_let, eChart]
  simp [fVar_ap, fC_ap, fTup_ap, fLst_ap, fOp_ap, fB_ap, fCall_ap, fAnd_ap, fOr_ap, fNot_ap, fIf_ap, fV_ap, fAndV_ap, fOrV_ap, fL_ap, fDisp_ap, fSeq_ap, fEnum_ap, fZip_ap, gSh_ap, gTupF_ap, fLc_ap, fYes_ap, fNil_ap, fThen_ap, fAsg_ap, fOwn_ap, fAsgT_ap, fRet_ap, fRetF_ap, fRetN_ap, fBk_ap, fCt_ap, fDrop_ap, fIfS_ap, fFor_ap, fCallD_ap, fG1_ap, fIsi_ap, fSl_ap, fSlF_ap, fD_ap, fOwnD_ap, fDc_ap, fT_ap, fOrT_ap, fAndT_ap, fOrF_ap, storeD_ap, fPut_ap, fCallO_ap, fCallL_ap, appD_ap, fApp_ap, fDg_ap, fNegI_ap, fPar_ap, fCallKw_ap, fChain_ap, fGet2_ap, fGet1_ap, fWalk_ap, fNotT_ap, fNotV_ap, fG1F_ap, fOpF_ap, fCallF_ap, runD_ap, runO_ap, Option.bind_assoc, loopF_nil, loopF_cons, loopLc_nil, loopLc_cons, loopW_succ, items_list, items_tuple, items_sq, tupD_list, tupD_tuple, tupD_sq, lenD_list, lenD_tuple, lenD_sq, intD_int, intD_bool, absD_int, truD_none, truD_bool, truD_int, truD_list, truD_tuple, truD_sq, gIx_int, asB_bool, g1_one, g1L_one, g2i_two, gInt_two, res_d, res_bor, fz_d, fz_bor, andThen_nx, andThen_rt, andThen_ro, andThen_bk, andThen_ct, again_nx, again_ct, again_bk, again_rt, again_ro, ended_rt, ended_nx, ended_ro, endedO_ro, fzs, eA, ress, outsOf, argsD, setOuts, gsCons, gsNil, argEnv, wipeE, restE, turnLc, maxD, minD, plus_int, sub_int, int_eq, int_ne, int_lt, int_le, int_gt, int_ge, oNone, oSome, pick, atI_0, atI_1, atI_2, law_spots_F true ch.1 h, eLand]
  apply lc_if_k (τ := fun s => !inT s ch.2) (φ := eSpot true)
  · intro s _ ht
    simp at ht
    simp [fVar_ap, fC_ap, fTup_ap, fLst_ap, fOp_ap, fB_ap, fCall_ap, fAnd_ap, fOr_ap, fNot_ap, fIf_ap, fV_ap, fAndV_ap, fOrV_ap, fL_ap, fDisp_ap, fSeq_ap, fEnum_ap, fZip_ap, gSh_ap, gTupF_ap, fLc_ap, fYes_ap, fNil_ap, fThen_ap, fAsg_ap, fOwn_ap, fAsgT_ap, fRet_ap, fRetF_ap, fRetN_ap, fBk_ap, fCt_ap, fDrop_ap, fIfS_ap, fFor_ap, fCallD_ap, fG1_ap, fIsi_ap, fSl_ap, fSlF_ap, fD_ap, fOwnD_ap, fDc_ap, fT_ap, fOrT_ap, fAndT_ap, fOrF_ap, storeD_ap, fPut_ap, fCallO_ap, fCallL_ap, appD_ap, fApp_ap, fDg_ap, fNegI_ap, fPar_ap, fCallKw_ap, fChain_ap, fGet2_ap, fGet1_ap, fWalk_ap, fNotT_ap, fNotV_ap, fG1F_ap, fOpF_ap, fCallF_ap, runD_ap, runO_ap, Option.bind_assoc, loopF_nil, loopF_cons, loopLc_nil, loopLc_cons, loopW_succ, items_list, items_tuple, items_sq, tupD_list, tupD_tuple, tupD_sq, lenD_list, lenD_tuple, lenD_sq, intD_int, intD_bool, absD_int, truD_none, truD_bool, truD_int, truD_list, truD_tuple, truD_sq, gIx_int, asB_bool, g1_one, g1L_one, g2i_two, gInt_two, res_d, res_bor, fz_d, fz_bor, andThen_nx, andThen_rt, andThen_ro, andThen_bk, andThen_ct, again_nx, again_ct, again_bk, again_rt, again_ro, ended_rt, ended_nx, ended_ro, endedO_ro, fzs, eA, ress, outsOf, argsD, setOuts, gsCons, gsNil, argEnv, wipeE, restE, turnLc, maxD, minD, plus_int, sub_int, int_eq, int_ne, int_lt, int_le, int_gt, int_ge, oNone, oSome, pick, atI_0, atI_1, atI_2, law_in_F, ht]
  · intro s _ ht
    simp at ht
    simp [fVar_ap, fC_ap, fTup_ap, fLst_ap, fOp_ap, fB_ap, fCall_ap, fAnd_ap, fOr_ap, fNot_ap, fIf_ap, fV_ap, fAndV_ap, fOrV_ap, fL_ap, fDisp_ap, fSeq_ap, fEnum_ap, fZip_ap, gSh_ap, gTupF_ap, fLc_ap, fYes_ap, fNil_ap, fThen_ap, fAsg_ap, fOwn_ap, fAsgT_ap, fRet_ap, fRetF_ap, fRetN_ap, fBk_ap, fCt_ap, fDrop_ap, fIfS_ap, fFor_ap, fCallD_ap, fG1_ap, fIsi_ap, fSl_ap, fSlF_ap, fD_ap, fOwnD_ap, fDc_ap, fT_ap, fOrT_ap, fAndT_ap, fOrF_ap, storeD_ap, fPut_ap, fCallO_ap, fCallL_ap, appD_ap, fApp_ap, fDg_ap, fNegI_ap, fPar_ap, fCallKw_ap, fChain_ap, fGet2_ap, fGet1_ap, fWalk_ap, fNotT_ap, fNotV_ap, fG1F_ap, fOpF_ap, fCallF_ap, runD_ap, runO_ap, Option.bind_assoc, loopF_nil, loopF_cons, loopLc_nil, loopLc_cons, loopW_succ, items_list, items_tuple, items_sq, tupD_list, tupD_tuple, tupD_sq, lenD_list, lenD_tuple, lenD_sq, intD_int, intD_bool, absD_int, truD_none, truD_bool, truD_int, truD_list, truD_tuple, truD_sq, gIx_int, asB_bool, g1_one, g1L_one, g2i_two, gInt_two, res_d, res_bor, fz_d, fz_bor, andThen_nx, andThen_rt, andThen_ro, andThen_bk, andThen_ct, again_nx, again_ct, again_bk, again_rt, again_ro, ended_rt, ended_nx, ended_ro, endedO_ro, fzs, eA, ress, outsOf, argsD, setOuts, gsCons, gsNil, argEnv, wipeE, restE, turnLc, maxD, minD, plus_int, sub_int, int_eq, int_ne, int_lt, int_le, int_gt, int_ge, oNone, oSome, pick, atI_0, atI_1, atI_2, law_in_F, ht]
  · simp [fVar_ap, fC_ap, fTup_ap, fLst_ap, fOp_ap, fB_ap, fCall_ap, fAnd_ap, fOr_ap, fNot_ap, fIf_ap, fV_ap, fAndV_ap, fOrV_ap, fL_ap, fDisp_ap, fSeq_ap, fEnum_ap, fZip_ap, gSh_ap, gTupF_ap, fLc_ap, fYes_ap, fNil_ap, fThen_ap, fAsg_ap, fOwn_ap, fAsgT_ap, fRet_ap, fRetF_ap, fRetN_ap, fBk_ap, fCt_ap, fDrop_ap, fIfS_ap, fFor_ap, fCallD_ap, fG1_ap, fIsi_ap, fSl_ap, fSlF_ap, fD_ap, fOwnD_ap, fDc_ap, fT_ap, fOrT_ap, fAndT_ap, fOrF_ap, storeD_ap, fPut_ap, fCallO_ap, fCallL_ap, appD_ap, fApp_ap, fDg_ap, fNegI_ap, fPar_ap, fCallKw_ap, fChain_ap, fGet2_ap, fGet1_ap, fWalk_ap, fNotT_ap, fNotV_ap, fG1F_ap, fOpF_ap, fCallF_ap, runD_ap, runO_ap, Option.bind_assoc, loopF_nil, loopF_cons, loopLc_nil, loopLc_cons, loopW_succ, items_list, items_tuple, items_sq, tupD_list, tupD_tuple, tupD_sq, lenD_list, lenD_tuple, lenD_sq, intD_int, intD_bool, absD_int, truD_none, truD_bool, truD_int, truD_list, truD_tuple, truD_sq, gIx_int, asB_bool, g1_one, g1L_one, g2i_two, gInt_two, res_d, res_bor, fz_d, fz_bor, andThen_nx, andThen_rt, andThen_ro, andThen_bk, andThen_ct, again_nx, again_ct, again_bk, again_rt, again_ro, ended_rt, ended_nx, ended_ro, endedO_ro, fzs, eA, ress, outsOf, argsD, setOuts, gsCons, gsNil, argEnv, wipeE, restE, turnLc, maxD, minD, plus_int, sub_int, int_eq, int_ne, int_lt, int_le, int_gt, int_ge, oNone, oSome, pick, atI_0, atI_1, atI_2]
    rfl
theorem law_land_F (b : Bool) (ch : Chart) (cut : Cut) (h : ch.1.length ≤ 8) : F__law_land [eChart true ch, eCut b cut] = some (eLand true (landT (letT ch) cut), []) := by
  simp only [F__law_land, f__law_land]
  simp [fVar_ap, fC_ap, fTup_ap, fLst_ap, fOp_ap, fB_ap, fCall_ap, fAnd_ap, fOr_ap, fNot_ap, fIf_ap, fV_ap, fAndV_ap, fOrV_ap, fL_ap, fDisp_ap, fSeq_ap, fEnum_ap, fZip_ap, gSh_ap, gTupF_ap, fLc_ap, fYes_ap, fNil_ap, fThen_ap, fAsg_ap, fOwn_ap, fAsgT_ap, fRet_ap, fRetF_ap, fRetN_ap, fBk_ap, fCt_ap, fDrop_ap, fIfS_ap, fFor_ap, fCallD_ap, fG1_ap, fIsi_ap, fSl_ap, fSlF_ap, fD_ap, fOwnD_ap, fDc_ap, fT_ap, fOrT_ap, fAndT_ap, fOrF_ap, storeD_ap, fPut_ap, fCallO_ap, fCallL_ap, appD_ap, fApp_ap, fDg_ap, fNegI_ap, fPar_ap, fCallKw_ap, fChain_ap, fGet2_ap, fGet1_ap, fWalk_ap, fNotT_ap, fNotV_ap, fG1F_ap, fOpF_ap, fCallF_ap, runD_ap, runO_ap, Option.bind_assoc, loopF_nil, loopF_cons, loopLc_nil, loopLc_cons, loopW_succ, items_list, items_tuple, items_sq, tupD_list, tupD_tuple, tupD_sq, lenD_list, lenD_tuple, lenD_sq, intD_int, intD_bool, absD_int, truD_none, truD_bool, truD_int, truD_list, truD_tuple, truD_sq, gIx_int, asB_bool, g1_one, g1L_one, g2i_two, gInt_two, res_d, res_bor, fz_d, fz_bor, andThen_nx, andThen_rt, andThen_ro, andThen_bk, andThen_ct, again_nx, again_ct, again_bk, again_rt, again_ro, ended_rt, ended_nx, ended_ro, endedO_ro, fzs, eA, ress, outsOf, argsD, setOuts, gsCons, gsNil, argEnv, wipeE, restE, turnLc, maxD, minD, plus_int, sub_int, int_eq, int_ne, int_lt, int_le, int_gt, int_ge, oNone, oSome, pick, atI_0, atI_1, atI_2, law_let_F ch h, eLand]
  apply lc_if_k (τ := fun s => inT s cut) (φ := eSpot true)
  · intro s _ ht
    simp [fVar_ap, fC_ap, fTup_ap, fLst_ap, fOp_ap, fB_ap, fCall_ap, fAnd_ap, fOr_ap, fNot_ap, fIf_ap, fV_ap, fAndV_ap, fOrV_ap, fL_ap, fDisp_ap, fSeq_ap, fEnum_ap, fZip_ap, gSh_ap, gTupF_ap, fLc_ap, fYes_ap, fNil_ap, fThen_ap, fAsg_ap, fOwn_ap, fAsgT_ap, fRet_ap, fRetF_ap, fRetN_ap, fBk_ap, fCt_ap, fDrop_ap, fIfS_ap, fFor_ap, fCallD_ap, fG1_ap, fIsi_ap, fSl_ap, fSlF_ap, fD_ap, fOwnD_ap, fDc_ap, fT_ap, fOrT_ap, fAndT_ap, fOrF_ap, storeD_ap, fPut_ap, fCallO_ap, fCallL_ap, appD_ap, fApp_ap, fDg_ap, fNegI_ap, fPar_ap, fCallKw_ap, fChain_ap, fGet2_ap, fGet1_ap, fWalk_ap, fNotT_ap, fNotV_ap, fG1F_ap, fOpF_ap, fCallF_ap, runD_ap, runO_ap, Option.bind_assoc, loopF_nil, loopF_cons, loopLc_nil, loopLc_cons, loopW_succ, items_list, items_tuple, items_sq, tupD_list, tupD_tuple, tupD_sq, lenD_list, lenD_tuple, lenD_sq, intD_int, intD_bool, absD_int, truD_none, truD_bool, truD_int, truD_list, truD_tuple, truD_sq, gIx_int, asB_bool, g1_one, g1L_one, g2i_two, gInt_two, res_d, res_bor, fz_d, fz_bor, andThen_nx, andThen_rt, andThen_ro, andThen_bk, andThen_ct, again_nx, again_ct, again_bk, again_rt, again_ro, ended_rt, ended_nx, ended_ro, endedO_ro, fzs, eA, ress, outsOf, argsD, setOuts, gsCons, gsNil, argEnv, wipeE, restE, turnLc, maxD, minD, plus_int, sub_int, int_eq, int_ne, int_lt, int_le, int_gt, int_ge, oNone, oSome, pick, atI_0, atI_1, atI_2, law_in_F, ht]
  · intro s _ ht
    simp [fVar_ap, fC_ap, fTup_ap, fLst_ap, fOp_ap, fB_ap, fCall_ap, fAnd_ap, fOr_ap, fNot_ap, fIf_ap, fV_ap, fAndV_ap, fOrV_ap, fL_ap, fDisp_ap, fSeq_ap, fEnum_ap, fZip_ap, gSh_ap, gTupF_ap, fLc_ap, fYes_ap, fNil_ap, fThen_ap, fAsg_ap, fOwn_ap, fAsgT_ap, fRet_ap, fRetF_ap, fRetN_ap, fBk_ap, fCt_ap, fDrop_ap, fIfS_ap, fFor_ap, fCallD_ap, fG1_ap, fIsi_ap, fSl_ap, fSlF_ap, fD_ap, fOwnD_ap, fDc_ap, fT_ap, fOrT_ap, fAndT_ap, fOrF_ap, storeD_ap, fPut_ap, fCallO_ap, fCallL_ap, appD_ap, fApp_ap, fDg_ap, fNegI_ap, fPar_ap, fCallKw_ap, fChain_ap, fGet2_ap, fGet1_ap, fWalk_ap, fNotT_ap, fNotV_ap, fG1F_ap, fOpF_ap, fCallF_ap, runD_ap, runO_ap, Option.bind_assoc, loopF_nil, loopF_cons, loopLc_nil, loopLc_cons, loopW_succ, items_list, items_tuple, items_sq, tupD_list, tupD_tuple, tupD_sq, lenD_list, lenD_tuple, lenD_sq, intD_int, intD_bool, absD_int, truD_none, truD_bool, truD_int, truD_list, truD_tuple, truD_sq, gIx_int, asB_bool, g1_one, g1L_one, g2i_two, gInt_two, res_d, res_bor, fz_d, fz_bor, andThen_nx, andThen_rt, andThen_ro, andThen_bk, andThen_ct, again_nx, again_ct, again_bk, again_rt, again_ro, ended_rt, ended_nx, ended_ro, endedO_ro, fzs, eA, ress, outsOf, argsD, setOuts, gsCons, gsNil, argEnv, wipeE, restE, turnLc, maxD, minD, plus_int, sub_int, int_eq, int_ne, int_lt, int_le, int_gt, int_ge, oNone, oSome, pick, atI_0, atI_1, atI_2, law_in_F, ht]
  · simp [fVar_ap, fC_ap, fTup_ap, fLst_ap, fOp_ap, fB_ap, fCall_ap, fAnd_ap, fOr_ap, fNot_ap, fIf_ap, fV_ap, fAndV_ap, fOrV_ap, fL_ap, fDisp_ap, fSeq_ap, fEnum_ap, fZip_ap, gSh_ap, gTupF_ap, fLc_ap, fYes_ap, fNil_ap, fThen_ap, fAsg_ap, fOwn_ap, fAsgT_ap, fRet_ap, fRetF_ap, fRetN_ap, fBk_ap, fCt_ap, fDrop_ap, fIfS_ap, fFor_ap, fCallD_ap, fG1_ap, fIsi_ap, fSl_ap, fSlF_ap, fD_ap, fOwnD_ap, fDc_ap, fT_ap, fOrT_ap, fAndT_ap, fOrF_ap, storeD_ap, fPut_ap, fCallO_ap, fCallL_ap, appD_ap, fApp_ap, fDg_ap, fNegI_ap, fPar_ap, fCallKw_ap, fChain_ap, fGet2_ap, fGet1_ap, fWalk_ap, fNotT_ap, fNotV_ap, fG1F_ap, fOpF_ap, fCallF_ap, runD_ap, runO_ap, Option.bind_assoc, loopF_nil, loopF_cons, loopLc_nil, loopLc_cons, loopW_succ, items_list, items_tuple, items_sq, tupD_list, tupD_tuple, tupD_sq, lenD_list, lenD_tuple, lenD_sq, intD_int, intD_bool, absD_int, truD_none, truD_bool, truD_int, truD_list, truD_tuple, truD_sq, gIx_int, asB_bool, g1_one, g1L_one, g2i_two, gInt_two, res_d, res_bor, fz_d, fz_bor, andThen_nx, andThen_rt, andThen_ro, andThen_bk, andThen_ct, again_nx, again_ct, again_bk, again_rt, again_ro, ended_rt, ended_nx, ended_ro, endedO_ro, fzs, eA, ress, outsOf, argsD, setOuts, gsCons, gsNil, argEnv, wipeE, restE, turnLc, maxD, minD, plus_int, sub_int, int_eq, int_ne, int_lt, int_le, int_gt, int_ge, oNone, oSome, pick, atI_0, atI_1, atI_2]
    rfl
end K03

set_option Elab.async false
set_option linter.all false
set_option maxRecDepth 100000
set_option maxHeartbeats 1000000
namespace L2.Lp
open PySem
mutual
/-- lists in the place of tuples -/
def toL : PyData → PyData
  | .list ds => .list (toLs ds)
  | .tuple ds => .list (toLs ds)
  | d => d
def toLs : List PyData → List PyData
  | [] => []
  | d :: ds => toL d :: toLs ds
end
mutual
/-- tuples in the place of lists -/
def toT : PyData → PyData
  | .list ds => .tuple (toTs ds)
  | .tuple ds => .tuple (toTs ds)
  | d => d
def toTs : List PyData → List PyData
  | [] => []
  | d :: ds => toT d :: toTs ds
end
theorem toLs_map : ∀ ds : List PyData, toLs ds = ds.map toL
  | [] => rfl
  | d :: ds => by rw [toLs, toLs_map ds]; rfl
theorem toTs_map : ∀ ds : List PyData, toTs ds = ds.map toT
  | [] => rfl
  | d :: ds => by rw [toTs, toTs_map ds]; rfl
theorem toL_sq (b : Bool) (ds : List PyData) : toL (sq b ds) = sq false (ds.map toL) := by
  cases b <;> simp [sq, toL, toLs_map]
theorem toT_sq (b : Bool) (ds : List PyData) : toT (sq b ds) = sq true (ds.map toT) := by
  cases b <;> simp [sq, toT, toTs_map]
theorem depthAll_mem : ∀ {ds : List PyData} {d : PyData}, d ∈ ds → d.depth ≤ PyData.depthAll ds
  | x :: ds, d, h => by
    rcases List.mem_cons.mp h with rfl | h
    · simp only [PyData.depthAll]
      omega
    · have := depthAll_mem h
      simp only [PyData.depthAll]
      omega
theorem canAll_mem : ∀ {ds : List PyData} {d : PyData}, d ∈ ds → PyData.canLayAll0 ds = true → PyData.canLay0 d = true
  | x :: ds, d, h, k => by
    simp only [PyData.canLayAll0, Bool.and_eq_true] at k
    rcases List.mem_cons.mp h with rfl | h
    · exact k.1
    · exact canAll_mem h k.2
section
variable {β : Type} {vs : List Nat} {fg : Gf} {ft : Tf} {fe : Sf} {env0 : List Sl}
theorem lc_data_k (φ : PyData → PyData) {ds : List PyData} {k : List PyData × List Sl → Option β} {z : Option β} (h : ∀ x ∈ ds, turnLc vs fg ft fe x env0 = some (some (φ x), env0)) (hk : k (ds.map φ, env0) = z) : (loopLc vs fg ft fe ds env0).bind k = z := by
  have := lc_all (enc := fun d : PyData => d) φ ds h
  rw [List.map_id'] at this
  rw [this]
  exact hk
end
theorem isN_eq (d : PyData) : gIsN d .none = some (.bool (isNo d)) := rfl
theorem isOf_list (d : PyData) : isOf ["list"] d = some (match d with
    | .list _ => true
    | _ => false) := by
  cases d <;> (simp only [isOf, tyN]; decide +kernel)
theorem isOf_tuple (d : PyData) : isOf ["tuple"] d = some (match d with
    | .tuple _ => true
    | _ => false) := by
  cases d <;> (simp only [isOf, tyN]; decide +kernel)
theorem isOf_bool (d : PyData) : isOf ["bool"] d = some (match d with
    | .bool _ => true
    | _ => false) := by
  cases d <;> (simp only [isOf, tyN]; decide +kernel)
theorem isOf_str (d : PyData) : isOf ["str"] d = some (match d with
    | .str _ => true
    | _ => false) := by
  cases d <;> (simp only [isOf, tyN]; decide +kernel)
theorem isOf_int (d : PyData) : isOf ["int"] d = some (match d with
    | .bool _ => true
    | .int _ => true
    | _ => false) := by
  cases d <;> (simp only [isOf, tyN]; decide +kernel)
theorem isOf_boolstr (d : PyData) : isOf ["bool", "str"] d = some (match d with
    | .bool _ => true
    | .str _ => true
    | _ => false) := by
  cases d <;> (simp only [isOf, tyN]; decide +kernel)
end L2.Lp
namespace K03
open L2.Lp Lnd
open PySem (PyData Str)
theorem lists_F : ∀ (n : Nat) (d : PyData), d.depth < n → F__law_lists n [d] = some (toL d, [])
  | 0, d, h => by omega
  | n + 1, .list ds, h => by
    simp only [PyData.depth] at h
    simp only [F__law_lists, f__law_lists]
    simp [fVar_ap, fC_ap, fTup_ap, fLst_ap, fOp_ap, fB_ap, fCall_ap, fAnd_ap, fOr_ap, fNot_ap, fIf_ap, fV_ap, fAndV_ap, fOrV_ap, fL_ap, fDisp_ap, fSeq_ap, fEnum_ap, fZip_ap, gSh_ap, gTupF_ap, fLc_ap, fYes_ap, fNil_ap, fThen_ap, fAsg_ap, fOwn_ap, fAsgT_ap, fRet_ap, fRetF_ap, fRetN_ap, fBk_ap, fCt_ap, fDrop_ap, fIfS_ap, fFor_ap, fCallD_ap, fG1_ap, fIsi_ap, fSl_ap, fSlF_ap, fD_ap, fOwnD_ap, fDc_ap, fT_ap, fOrT_ap, fAndT_ap, fOrF_ap, storeD_ap, fPut_ap, fCallO_ap, fCallL_ap, appD_ap, fApp_ap, fDg_ap, fNegI_ap, fPar_ap, fCallKw_ap, fChain_ap, fGet2_ap, fGet1_ap, fWalk_ap, fNotT_ap, fNotV_ap, fG1F_ap, fOpF_ap, fCallF_ap, runD_ap, runO_ap, Option.bind_assoc, loopF_nil, loopF_cons, loopLc_nil, loopLc_cons, loopW_succ, items_list, items_tuple, items_sq, tupD_list, tupD_tuple, tupD_sq, lenD_list, lenD_tuple, lenD_sq, intD_int, intD_bool, absD_int, truD_none, truD_bool, truD_int, truD_list, truD_tuple, truD_sq, gIx_int, asB_bool, g1_one, g1L_one, g2i_two, gInt_two, res_d, res_bor, fz_d, fz_bor, andThen_nx, andThen_rt, andThen_ro, andThen_bk, andThen_ct, again_nx, again_ct, again_bk, again_rt, again_ro, ended_rt, ended_nx, ended_ro, endedO_ro, fzs, eA, ress, outsOf, argsD, setOuts, gsCons, gsNil, argEnv, wipeE, restE, turnLc, maxD, minD, plus_int, sub_int, int_eq, int_ne, int_lt, int_le, int_gt, int_ge, oNone, oSome, pick, atI_0, atI_1, atI_2, isOf_seq]
    apply lc_data_k (φ := toL)
    · intro d hd
      have := depthAll_mem hd
      simp [fVar_ap, fC_ap, fTup_ap, fLst_ap, fOp_ap, fB_ap, fCall_ap, fAnd_ap, fOr_ap, fNot_ap, fIf_ap, fV_ap, fAndV_ap, fOrV_ap, fL_ap, fDisp_ap, fSeq_ap, fEnum_ap, fZip_ap, gSh_ap, gTupF_ap, fLc_ap, fYes_ap, fNil_ap, fThen_ap, fAsg_ap, fOwn_ap, fAsgT_ap, fRet_ap, fRetF_ap, fRetN_ap, fBk_ap, fCt_ap, fDrop_ap, fIfS_ap, fFor_ap, fCallD_ap, fG1_ap, fIsi_ap, fSl_ap, fSlF_ap, fD_ap, fOwnD_ap, fDc_ap, fT_ap, fOrT_ap, fAndT_ap, fOrF_ap, storeD_ap, fPut_ap, fCallO_ap, fCallL_ap, appD_ap, fApp_ap, fDg_ap, fNegI_ap, fPar_ap, fCallKw_ap, fChain_ap, fGet2_ap, fGet1_ap, fWalk_ap, fNotT_ap, fNotV_ap, fG1F_ap, fOpF_ap, fCallF_ap, runD_ap, runO_ap, Option.bind_assoc, loopF_nil, loopF_cons, loopLc_nil, loopLc_cons, loopW_succ, items_list, items_tuple, items_sq, tupD_list, tupD_tuple, tupD_sq, lenD_list, lenD_tuple, lenD_sq, intD_int, intD_bool, absD_int, truD_none, truD_bool, truD_int, truD_list, truD_tuple, truD_sq, gIx_int, asB_bool, g1_one, g1L_one, g2i_two, gInt_two, res_d, res_bor, fz_d, fz_bor, andThen_nx, andThen_rt, andThen_ro, andThen_bk, andThen_ct, again_nx, again_ct, again_bk, again_rt, again_ro, ended_rt, ended_nx, ended_ro, endedO_ro, fzs, eA, ress, outsOf, argsD, setOuts, gsCons, gsNil, argEnv, wipeE, restE, turnLc, maxD, minD, plus_int, sub_int, int_eq, int_ne, int_lt, int_le, int_gt, int_ge, oNone, oSome, pick, atI_0, atI_1, atI_2, lists_F n d (by omega)]
    · simp [fVar_ap, fC_ap, fTup_ap, fLst_ap, fOp_ap, fB_ap, fCall_ap, fAnd_ap, fOr_ap, fNot_ap, fIf_ap, fV_ap, fAndV_ap, fOrV_ap, fL_ap, fDisp_ap, fSeq_ap, fEnum_ap, fZip_ap, gSh_ap, gTupF_ap, fLc_ap, fYes_ap, fNil_ap, fThen_ap, fAsg_ap, fOwn_ap, fAsgT_ap, fRet_ap, fRetF_ap, fRetN_ap, fBk_ap, fCt_ap, fDrop_ap, fIfS_ap, fFor_ap, fCallD_ap, fG1_ap, fIsi_ap, fSl_ap, fSlF_ap, fD_ap, fOwnD_ap, fDc_ap, fT_ap, fOrT_ap, fAndT_ap, fOrF_ap, storeD_ap, fPut_ap, fCallO_ap, fCallL_ap, appD_ap, fApp_ap, fDg_ap, fNegI_ap, fPar_ap, fCallKw_ap, fChain_ap, fGet2_ap, fGet1_ap, fWalk_ap, fNotT_ap, fNotV_ap, fG1F_ap, fOpF_ap, fCallF_ap, runD_ap, runO_ap, Option.bind_assoc, loopF_nil, loopF_cons, loopLc_nil, loopLc_cons, loopW_succ, items_list, items_tuple, items_sq, tupD_list, tupD_tuple, tupD_sq, lenD_list, lenD_tuple, lenD_sq, intD_int, intD_bool, absD_int, truD_none, truD_bool, truD_int, truD_list, truD_tuple, truD_sq, gIx_int, asB_bool, g1_one, g1L_one, g2i_two, gInt_two, res_d, res_bor, fz_d, fz_bor, andThen_nx, andThen_rt, andThen_ro, andThen_bk, andThen_ct, again_nx, again_ct, again_bk, again_rt, again_ro, ended_rt, ended_nx, ended_ro, endedO_ro, fzs, eA, ress, outsOf, argsD, setOuts, gsCons, gsNil, argEnv, wipeE, restE, turnLc, maxD, minD, plus_int, sub_int, int_eq, int_ne, int_lt, int_le, int_gt, int_ge, oNone, oSome, pick, atI_0, atI_1, atI_2, toL, toLs_map]
  | n + 1, .tuple ds, h => by
    simp only [PyData.depth] at h
    simp only [F__law_lists, f__law_lists]
    simp [fVar_ap, fC_ap, fTup_ap, fLst_ap, fOp_ap, fB_ap, fCall_ap, fAnd_ap, fOr_ap, fNot_ap, fIf_ap, fV_ap, fAndV_ap, fOrV_ap, fL_ap, fDisp_ap, fSeq_ap, fEnum_ap, fZip_ap, gSh_ap, gTupF_ap, fLc_ap, fYes_ap, fNil_ap, fThen_ap, fAsg_ap, fOwn_ap, fAsgT_ap, fRet_ap, fRetF_ap, fRetN_ap, fBk_ap, fCt_ap, fDrop_ap, fIfS_ap, fFor_ap, fCallD_ap, fG1_ap, fIsi_ap, fSl_ap, fSlF_ap, fD_ap, fOwnD_ap, fDc_ap, fT_ap, fOrT_ap, fAndT_ap, fOrF_ap, storeD_ap, fPut_ap, fCallO_ap, fCallL_ap, appD_ap, fApp_ap, fDg_ap, fNegI_ap, fPar_ap, fCallKw_ap, fChain_ap, fGet2_ap, fGet1_ap, fWalk_ap, fNotT_ap, fNotV_ap, fG1F_ap, fOpF_ap, fCallF_ap, runD_ap, runO_ap, Option.bind_assoc, loopF_nil, loopF_cons, loopLc_nil, loopLc_cons, loopW_succ, items_list, items_tuple, items_sq, tupD_list, tupD_tuple, tupD_sq, lenD_list, lenD_tuple, lenD_sq, intD_int, intD_bool, absD_int, truD_none, truD_bool, truD_int, truD_list, truD_tuple, truD_sq, gIx_int, asB_bool, g1_one, g1L_one, g2i_two, gInt_two, res_d, res_bor, fz_d, fz_bor, andThen_nx, andThen_rt, andThen_ro, andThen_bk, andThen_ct, again_nx, again_ct, again_bk, again_rt, again_ro, ended_rt, ended_nx, ended_ro, endedO_ro, fzs, eA, ress, outsOf, argsD, setOuts, gsCons, gsNil, argEnv, wipeE, restE, turnLc, maxD, minD, plus_int, sub_int, int_eq, int_ne, int_lt, int_le, int_gt, int_ge, oNone, oSome, pick, atI_0, atI_1, atI_2, isOf_seq]
    apply lc_data_k (φ := toL)
    · intro d hd
      have := depthAll_mem hd
      simp [fVar_ap, fC_ap, fTup_ap, fLst_ap, fOp_ap, fB_ap, fCall_ap, fAnd_ap, fOr_ap, fNot_ap, fIf_ap, fV_ap, fAndV_ap, fOrV_ap, fL_ap, fDisp_ap, fSeq_ap, fEnum_ap, fZip_ap, gSh_ap, gTupF_ap, fLc_ap, fYes_ap, fNil_ap, fThen_ap, fAsg_ap, fOwn_ap, fAsgT_ap, fRet_ap, fRetF_ap, fRetN_ap, fBk_ap, fCt_ap, fDrop_ap, fIfS_ap, fFor_ap, fCallD_ap, fG1_ap, fIsi_ap, fSl_ap, fSlF_ap, fD_ap, fOwnD_ap, fDc_ap, fT_ap, fOrT_ap, fAndT_ap, fOrF_ap, storeD_ap, fPut_ap, fCallO_ap, fCallL_ap, appD_ap, fApp_ap, fDg_ap, fNegI_ap, fPar_ap, fCallKw_ap, fChain_ap, fGet2_ap, fGet1_ap, fWalk_ap, fNotT_ap, fNotV_ap, fG1F_ap, fOpF_ap, fCallF_ap, runD_ap, runO_ap, Option.bind_assoc, loopF_nil, loopF_cons, loopLc_nil, loopLc_cons, loopW_succ, items_list, items_tuple, items_sq, tupD_list, tupD_tuple, tupD_sq, lenD_list, lenD_tuple, lenD_sq, intD_int, intD_bool, absD_int, truD_none, truD_bool, truD_int, truD_list, truD_tuple, truD_sq, gIx_int, asB_bool, g1_one, g1L_one, g2i_two, gInt_two, res_d, res_bor, fz_d, fz_bor, andThen_nx, andThen_rt, andThen_ro, andThen_bk, andThen_ct, again_nx, again_ct, again_bk, again_rt, again_ro, ended_rt, ended_nx, ended_ro, endedO_ro, fzs, eA, ress, outsOf, argsD, setOuts, gsCons, gsNil, argEnv, wipeE, restE, turnLc, maxD, minD, plus_int, sub_int, int_eq, int_ne, int_lt, int_le, int_gt, int_ge, oNone, oSome, pick, atI_0, atI_1, atI_2, lists_F n d (by omega)]
    · simp [fVar_ap, fC_ap, fTup_ap, fLst_ap, fOp_ap, fB_ap, fCall_ap, fAnd_ap, fOr_ap, fNot_ap, fIf_ap, fV_ap, fAndV_ap, fOrV_ap, fL_ap, fDisp_ap, fSeq_ap, fEnum_ap, fZip_ap, gSh_ap, gTupF_ap, fLc_ap, fYes_ap, fNil_ap, fThen_ap, fAsg_ap, fOwn_ap, fAsgT_ap, fRet_ap, fRetF_ap, fRetN_ap, fBk_ap, fCt_ap, fDrop_ap, fIfS_ap, fFor_ap, fCallD_ap, fG1_ap, fIsi_ap, fSl_ap, fSlF_ap, fD_ap, fOwnD_ap, fDc_ap, fT_ap, fOrT_ap, fAndT_ap, fOrF_ap, storeD_ap, fPut_ap, fCallO_ap, fCallL_ap, appD_ap, fApp_ap, fDg_ap, fNegI_ap, fPar_ap, fCallKw_ap, fChain_ap, fGet2_ap, fGet1_ap, fWalk_ap, fNotT_ap, fNotV_ap, fG1F_ap, fOpF_ap, fCallF_ap, runD_ap, runO_ap, Option.bind_assoc, loopF_nil, loopF_cons, loopLc_nil, loopLc_cons, loopW_succ, items_list, items_tuple, items_sq, tupD_list, tupD_tuple, tupD_sq, lenD_list, lenD_tuple, lenD_sq, intD_int, intD_bool, absD_int, truD_none, truD_bool, truD_int, truD_list, truD_tuple, truD_sq, gIx_int, asB_bool, g1_one, g1L_one, g2i_two, gInt_two, res_d, res_bor, fz_d, fz_bor, andThen_nx, andThen_rt, andThen_ro, andThen_bk, andThen_ct, again_nx, again_ct, again_bk, again_rt, again_ro, ended_rt, ended_nx, ended_ro, endedO_ro, fzs, eA, ress, outsOf, argsD, setOuts, gsCons, gsNil, argEnv, wipeE, restE, turnLc, maxD, minD, plus_int, sub_int, int_eq, int_ne, int_lt, int_le, int_gt, int_ge, oNone, oSome, pick, atI_0, atI_1, atI_2, toL, toLs_map]
  | n + 1, .none, h => by simp only [F__law_lists, f__law_lists]; simp [fVar_ap, fC_ap, fTup_ap, fLst_ap, fOp_ap, fB_ap, fCall_ap, fAnd_ap, fOr_ap, fNot_ap, fIf_ap, fV_ap, fAndV_ap, fOrV_ap, fL_ap, fDisp_ap, fSeq_ap, fEnum_ap, fZip_ap, gSh_ap, gTupF_ap, fLc_ap, fYes_ap, fNil_ap, fThen_ap, fAsg_ap, fOwn_ap, fAsgT_ap, fRet_ap, fRetF_ap, fRetN_ap, fBk_ap, fCt_ap, fDrop_ap, fIfS_ap, fFor_ap, fCallD_ap, fG1_ap, fIsi_ap, fSl_ap, fSlF_ap, fD_ap, fOwnD_ap, fDc_ap, fT_ap, fOrT_ap, fAndT_ap, fOrF_ap, storeD_ap, fPut_ap, fCallO_ap, fCallL_ap, appD_ap, fApp_ap, fDg_ap, fNegI_ap, fPar_ap, fCallKw_ap, fChain_ap, fGet2_ap, fGet1_ap, fWalk_ap, fNotT_ap, fNotV_ap, fG1F_ap, fOpF_ap, fCallF_ap, runD_ap, runO_ap, Option.bind_assoc, loopF_nil, loopF_cons, loopLc_nil, loopLc_cons, loopW_succ, items_list, items_tuple, items_sq, tupD_list, tupD_tuple, tupD_sq, lenD_list, lenD_tuple, lenD_sq, intD_int, intD_bool, absD_int, truD_none, truD_bool, truD_int, truD_list, truD_tuple, truD_sq, gIx_int, asB_bool, g1_one, g1L_one, g2i_two, gInt_two, res_d, res_bor, fz_d, fz_bor, andThen_nx, andThen_rt, andThen_ro, andThen_bk, andThen_ct, again_nx, again_ct, again_bk, again_rt, again_ro, ended_rt, ended_nx, ended_ro, endedO_ro, fzs, eA, ress, outsOf, argsD, setOuts, gsCons, gsNil, argEnv, wipeE, restE, turnLc, maxD, minD, plus_int, sub_int, int_eq, int_ne, int_lt, int_le, int_gt, int_ge, oNone, oSome, pick, atI_0, atI_1, atI_2, isOf_seq, toL]
  | n + 1, .bool _, h => by simp only [F__law_lists, f__law_lists]; simp [fVar_ap, fC_ap, fTup_ap, fLst_ap, fOp_ap, fB_ap, fCall_ap, fAnd_ap, fOr_ap, fNot_ap, fIf_ap, fV_ap, fAndV_ap, fOrV_ap, fL_ap, fDisp_ap, fSeq_ap, fEnum_ap, fZip_ap, gSh_ap, gTupF_ap, fLc_ap, fYes_ap, fNil_ap, fThen_ap, fAsg_ap, fOwn_ap, fAsgT_ap, fRet_ap, fRetF_ap, fRetN_ap, fBk_ap, fCt_ap, fDrop_ap, fIfS_ap, fFor_ap, fCallD_ap, fG1_ap, fIsi_ap, fSl_ap, fSlF_ap, fD_ap, fOwnD_ap, fDc_ap, fT_ap, fOrT_ap, fAndT_ap, fOrF_ap, storeD_ap, fPut_ap, fCallO_ap, fCallL_ap, appD_ap, fApp_ap, fDg_ap, fNegI_ap, fPar_ap, fCallKw_ap, fChain_ap, fGet2_ap, fGet1_ap, fWalk_ap, fNotT_ap, fNotV_ap, fG1F_ap, fOpF_ap, fCallF_ap, runD_ap, runO_ap, Option.bind_assoc, loopF_nil, loopF_cons, loopLc_nil, loopLc_cons, loopW_succ, items_list, items_tuple, items_sq, tupD_list, tupD_tuple, tupD_sq, lenD_list, lenD_tuple, lenD_sq, intD_int, intD_bool, absD_int, truD_none, truD_bool, truD_int, truD_list, truD_tuple, truD_sq, gIx_int, asB_bool, g1_one, g1L_one, g2i_two, gInt_two, res_d, res_bor, fz_d, fz_bor, andThen_nx, andThen_rt, andThen_ro, andThen_bk, andThen_ct, again_nx, again_ct, again_bk, again_rt, again_ro, ended_rt, ended_nx, ended_ro, endedO_ro, fzs, eA, ress, outsOf, argsD, setOuts, gsCons, gsNil, argEnv, wipeE, restE, turnLc, maxD, minD, plus_int, sub_int, int_eq, int_ne, int_lt, int_le, int_gt, int_ge, oNone, oSome, pick, atI_0, atI_1, atI_2, isOf_seq, toL]
  | n + 1, .int _, h => by simp only [F__law_lists, f__law_lists]; simp [fVar_ap, fC_ap, fTup_ap, fLst_ap, fOp_ap, fB_ap, fCall_ap, fAnd_ap, fOr_ap, fNot_ap, fIf_ap, fV_ap, fAndV_ap, fOrV_ap, fL_ap, fDisp_ap, fSeq_ap, fEnum_ap, fZip_ap, gSh_ap, gTupF_ap, fLc_ap, fYes_ap, fNil_ap, fThen_ap, fAsg_ap, fOwn_ap, fAsgT_ap, fRet_ap, fRetF_ap, fRetN_ap, fBk_ap, fCt_ap, fDrop_ap, fIfS_ap, fFor_ap, fCallD_ap, fG1_ap, fIsi_ap, fSl_ap, fSlF_ap, fD_ap, fOwnD_ap, fDc_ap, fT_ap, fOrT_ap, fAndT_ap, fOrF_ap, storeD_ap, fPut_ap, fCallO_ap, fCallL_ap, appD_ap, fApp_ap, fDg_ap, fNegI_ap, fPar_ap, fCallKw_ap, fChain_ap, fGet2_ap, fGet1_ap, fWalk_ap, fNotT_ap, fNotV_ap, fG1F_ap, fOpF_ap, fCallF_ap, runD_ap, runO_ap, Option.bind_assoc, loopF_nil, loopF_cons, loopLc_nil, loopLc_cons, loopW_succ, items_list, items_tuple, items_sq, tupD_list, tupD_tuple, tupD_sq, lenD_list, lenD_tuple, lenD_sq, intD_int, intD_bool, absD_int, truD_none, truD_bool, truD_int, truD_list, truD_tuple, truD_sq, gIx_int, asB_bool, g1_one, g1L_one, g2i_two, gInt_two, res_d, res_bor, fz_d, fz_bor, andThen_nx, andThen_rt, andThen_ro, andThen_bk, andThen_ct, again_nx, again_ct, again_bk, again_rt, again_ro, ended_rt, ended_nx, ended_ro, endedO_ro, fzs, eA, ress, outsOf, argsD, setOuts, gsCons, gsNil, argEnv, wipeE, restE, turnLc, maxD, minD, plus_int, sub_int, int_eq, int_ne, int_lt, int_le, int_gt, int_ge, oNone, oSome, pick, atI_0, atI_1, atI_2, isOf_seq, toL]
  | n + 1, .str _, h => by simp only [F__law_lists, f__law_lists]; simp [fVar_ap, fC_ap, fTup_ap, fLst_ap, fOp_ap, fB_ap, fCall_ap, fAnd_ap, fOr_ap, fNot_ap, fIf_ap, fV_ap, fAndV_ap, fOrV_ap, fL_ap, fDisp_ap, fSeq_ap, fEnum_ap, fZip_ap, gSh_ap, gTupF_ap, fLc_ap, fYes_ap, fNil_ap, fThen_ap, fAsg_ap, fOwn_ap, fAsgT_ap, fRet_ap, fRetF_ap, fRetN_ap, fBk_ap, fCt_ap, fDrop_ap, fIfS_ap, fFor_ap, fCallD_ap, fG1_ap, fIsi_ap, fSl_ap, fSlF_ap, fD_ap, fOwnD_ap, fDc_ap, fT_ap, fOrT_ap, fAndT_ap, fOrF_ap, storeD_ap, fPut_ap, fCallO_ap, fCallL_ap, appD_ap, fApp_ap, fDg_ap, fNegI_ap, fPar_ap, fCallKw_ap, fChain_ap, fGet2_ap, fGet1_ap, fWalk_ap, fNotT_ap, fNotV_ap, fG1F_ap, fOpF_ap, fCallF_ap, runD_ap, runO_ap, Option.bind_assoc, loopF_nil, loopF_cons, loopLc_nil, loopLc_cons, loopW_succ, items_list, items_tuple, items_sq, tupD_list, tupD_tuple, tupD_sq, lenD_list, lenD_tuple, lenD_sq, intD_int, intD_bool, absD_int, truD_none, truD_bool, truD_int, truD_list, truD_tuple, truD_sq, gIx_int, asB_bool, g1_one, g1L_one, g2i_two, gInt_two, res_d, res_bor, fz_d, fz_bor, andThen_nx, andThen_rt, andThen_ro, andThen_bk, andThen_ct, again_nx, again_ct, again_bk, again_rt, again_ro, ended_rt, ended_nx, ended_ro, endedO_ro, fzs, eA, ress, outsOf, argsD, setOuts, gsCons, gsNil, argEnv, wipeE, restE, turnLc, maxD, minD, plus_int, sub_int, int_eq, int_ne, int_lt, int_le, int_gt, int_ge, oNone, oSome, pick, atI_0, atI_1, atI_2, isOf_seq, toL]
  | n + 1, .dict _, h => by simp only [F__law_lists, f__law_lists]; simp [fVar_ap, fC_ap, fTup_ap, fLst_ap, fOp_ap, fB_ap, fCall_ap, fAnd_ap, fOr_ap, fNot_ap, fIf_ap, fV_ap, fAndV_ap, fOrV_ap, fL_ap, fDisp_ap, fSeq_ap, fEnum_ap, fZip_ap, gSh_ap, gTupF_ap, fLc_ap, fYes_ap, fNil_ap, fThen_ap, fAsg_ap, fOwn_ap, fAsgT_ap, fRet_ap, fRetF_ap, fRetN_ap, fBk_ap, fCt_ap, fDrop_ap, fIfS_ap, fFor_ap, fCallD_ap, fG1_ap, fIsi_ap, fSl_ap, fSlF_ap, fD_ap, fOwnD_ap, fDc_ap, fT_ap, fOrT_ap, fAndT_ap, fOrF_ap, storeD_ap, fPut_ap, fCallO_ap, fCallL_ap, appD_ap, fApp_ap, fDg_ap, fNegI_ap, fPar_ap, fCallKw_ap, fChain_ap, fGet2_ap, fGet1_ap, fWalk_ap, fNotT_ap, fNotV_ap, fG1F_ap, fOpF_ap, fCallF_ap, runD_ap, runO_ap, Option.bind_assoc, loopF_nil, loopF_cons, loopLc_nil, loopLc_cons, loopW_succ, items_list, items_tuple, items_sq, tupD_list, tupD_tuple, tupD_sq, lenD_list, lenD_tuple, lenD_sq, intD_int, intD_bool, absD_int, truD_none, truD_bool, truD_int, truD_list, truD_tuple, truD_sq, gIx_int, asB_bool, g1_one, g1L_one, g2i_two, gInt_two, res_d, res_bor, fz_d, fz_bor, andThen_nx, andThen_rt, andThen_ro, andThen_bk, andThen_ct, again_nx, again_ct, again_bk, again_rt, again_ro, ended_rt, ended_nx, ended_ro, endedO_ro, fzs, eA, ress, outsOf, argsD, setOuts, gsCons, gsNil, argEnv, wipeE, restE, turnLc, maxD, minD, plus_int, sub_int, int_eq, int_ne, int_lt, int_le, int_gt, int_ge, oNone, oSome, pick, atI_0, atI_1, atI_2, isOf_seq, toL]
theorem as_tuples_F : ∀ (n : Nat) (d : PyData), d.depth < n → F_as_tuples n [d] = some (toT d, [])
  | 0, d, h => by omega
  | n + 1, .list ds, h => by
    simp only [PyData.depth] at h
    simp only [F_as_tuples, f_as_tuples]
    simp [fVar_ap, fC_ap, fTup_ap, fLst_ap, fOp_ap, fB_ap, fCall_ap, fAnd_ap, fOr_ap, fNot_ap, fIf_ap, fV_ap, fAndV_ap, fOrV_ap, fL_ap, fDisp_ap, fSeq_ap, fEnum_ap, fZip_ap, gSh_ap, gTupF_ap, fLc_ap, fYes_ap, fNil_ap, fThen_ap, fAsg_ap, fOwn_ap, fAsgT_ap, fRet_ap, fRetF_ap, fRetN_ap, fBk_ap, fCt_ap, fDrop_ap, fIfS_ap, fFor_ap, fCallD_ap, fG1_ap, fIsi_ap, fSl_ap, fSlF_ap, fD_ap, fOwnD_ap, fDc_ap, fT_ap, fOrT_ap, fAndT_ap, fOrF_ap, storeD_ap, fPut_ap, fCallO_ap, fCallL_ap, appD_ap, fApp_ap, fDg_ap, fNegI_ap, fPar_ap, fCallKw_ap, fChain_ap, fGet2_ap, fGet1_ap, fWalk_ap, fNotT_ap, fNotV_ap, fG1F_ap, fOpF_ap, fCallF_ap, runD_ap, runO_ap, Option.bind_assoc, loopF_nil, loopF_cons, loopLc_nil, loopLc_cons, loopW_succ, items_list, items_tuple, items_sq, tupD_list, tupD_tuple, tupD_sq, lenD_list, lenD_tuple, lenD_sq, intD_int, intD_bool, absD_int, truD_none, truD_bool, truD_int, truD_list, truD_tuple, truD_sq, gIx_int, asB_bool, g1_one, g1L_one, g2i_two, gInt_two, res_d, res_bor, fz_d, fz_bor, andThen_nx, andThen_rt, andThen_ro, andThen_bk, andThen_ct, again_nx, again_ct, again_bk, again_rt, again_ro, ended_rt, ended_nx, ended_ro, endedO_ro, fzs, eA, ress, outsOf, argsD, setOuts, gsCons, gsNil, argEnv, wipeE, restE, turnLc, maxD, minD, plus_int, sub_int, int_eq, int_ne, int_lt, int_le, int_gt, int_ge, oNone, oSome, pick, atI_0, atI_1, atI_2, isOf_seq]
    apply lc_data_k (φ := toT)
    · intro d hd
      have := depthAll_mem hd
      simp [fVar_ap, fC_ap, fTup_ap, fLst_ap, fOp_ap, fB_ap, fCall_ap, fAnd_ap, fOr_ap, fNot_ap, fIf_ap, fV_ap, fAndV_ap, fOrV_ap, fL_ap, fDisp_ap, fSeq_ap, fEnum_ap, fZip_ap, gSh_ap, gTupF_ap, fLc_ap, fYes_ap, fNil_ap, fThen_ap, fAsg_ap, fOwn_ap, fAsgT_ap, fRet_ap, fRetF_ap, fRetN_ap, fBk_ap, fCt_ap, fDrop_ap, fIfS_ap, fFor_ap, fCallD_ap, fG1_ap, fIsi_ap, fSl_ap, fSlF_ap, fD_ap, fOwnD_ap, fDc_ap, fT_ap, fOrT_ap, fAndT_ap, fOrF_ap, storeD_ap, fPut_ap, fCallO_ap, fCallL_ap, appD_ap, fApp_ap, fDg_ap, fNegI_ap, fPar_ap, fCallKw_ap, fChain_ap, fGet2_ap, fGet1_ap, fWalk_ap, fNotT_ap, fNotV_ap, fG1F_ap, fOpF_ap, fCallF_ap, runD_ap, runO_ap, Option.bind_assoc, loopF_nil, loopF_cons, loopLc_nil, loopLc_cons, loopW_succ, items_list, items_tuple, items_sq, tupD_list, tupD_tuple, tupD_sq, lenD_list, lenD_tuple, lenD_sq, intD_int, intD_bool, absD_int, truD_none, truD_bool, truD_int, truD_list, truD_tuple, truD_sq, gIx_int, asB_bool, g1_one, g1L_one, g2i_two, gInt_two, res_d, res_bor, fz_d, fz_bor, andThen_nx, andThen_rt, andThen_ro, andThen_bk, andThen_ct, again_nx, again_ct, again_bk, again_rt, again_ro, ended_rt, ended_nx, ended_ro, endedO_ro, fzs, eA, ress, outsOf, argsD, setOuts, gsCons, gsNil, argEnv, wipeE, restE, turnLc, maxD, minD, plus_int, sub_int, int_eq, int_ne, int_lt, int_le, int_gt, int_ge, oNone, oSome, pick, atI_0, atI_1, atI_2, as_tuples_F n d (by omega)]
    · simp [fVar_ap, fC_ap, fTup_ap, fLst_ap, fOp_ap, fB_ap, fCall_ap, fAnd_ap, fOr_ap, fNot_ap, fIf_ap, fV_ap, fAndV_ap, fOrV_ap, fL_ap, fDisp_ap, fSeq_ap, fEnum_ap, fZip_ap, gSh_ap, gTupF_ap, fLc_ap, fYes_ap, fNil_ap, fThen_ap, fAsg_ap, fOwn_ap, fAsgT_ap, fRet_ap, fRetF_ap, fRetN_ap, fBk_ap, fCt_ap, fDrop_ap, fIfS_ap, fFor_ap, fCallD_ap, fG1_ap, fIsi_ap, fSl_ap, fSlF_ap, fD_ap, fOwnD_ap, fDc_ap, fT_ap, fOrT_ap, fAndT_ap, fOrF_ap, storeD_ap, fPut_ap, fCallO_ap, fCallL_ap, appD_ap, fApp_ap, fDg_ap, fNegI_ap, fPar_ap, fCallKw_ap, fChain_ap, fGet2_ap, fGet1_ap, fWalk_ap, fNotT_ap, fNotV_ap, fG1F_ap, fOpF_ap, fCallF_ap, runD_ap, runO_ap, Option.bind_assoc, loopF_nil, loopF_cons, loopLc_nil, loopLc_cons, loopW_succ, items_list, items_tuple, items_sq, tupD_list, tupD_tuple, tupD_sq, lenD_list, lenD_tuple, lenD_sq, intD_int, intD_bool, absD_int, truD_none, truD_bool, truD_int, truD_list, truD_tuple, truD_sq, gIx_int, asB_bool, g1_one, g1L_one, g2i_two, gInt_two, res_d, res_bor, fz_d, fz_bor, andThen_nx, andThen_rt, andThen_ro, andThen_bk, andThen_ct, again_nx, again_ct, again_bk, again_rt, again_ro, ended_rt, ended_nx, ended_ro, endedO_ro, fzs, eA, ress, outsOf, argsD, setOuts, gsCons, gsNil, argEnv, wipeE, restE, turnLc, maxD, minD, plus_int, sub_int, int_eq, int_ne, int_lt, int_le, int_gt, int_ge, oNone, oSome, pick, atI_0, atI_1, atI_2, toT, toTs_map]
  | n + 1, .tuple ds, h => by
    simp only [PyData.depth] at h
    simp only [F_as_tuples, f_as_tuples]
    simp [fVar_ap, fC_ap, fTup_ap, fLst_ap, fOp_ap, fB_ap, fCall_ap, fAnd_ap, fOr_ap, fNot_ap, fIf_ap, fV_ap, fAndV_ap, fOrV_ap, fL_ap, fDisp_ap, fSeq_ap, fEnum_ap, fZip_ap, gSh_ap, gTupF_ap, fLc_ap, fYes_ap, fNil_ap, fThen_ap, fAsg_ap, fOwn_ap, fAsgT_ap, fRet_ap, fRetF_ap, fRetN_ap, fBk_ap, fCt_ap, fDrop_ap, fIfS_ap, fFor_ap, fCallD_ap, fG1_ap, fIsi_ap, fSl_ap, fSlF_ap, fD_ap, fOwnD_ap, fDc_ap, fT_ap, fOrT_ap, fAndT_ap, fOrF_ap, storeD_ap, fPut_ap, fCallO_ap, fCallL_ap, appD_ap, fApp_ap, fDg_ap, fNegI_ap, fPar_ap, fCallKw_ap, fChain_ap, fGet2_ap, fGet1_ap, fWalk_ap, fNotT_ap, fNotV_ap, fG1F_ap, fOpF_ap, fCallF_ap, runD_ap, runO_ap, Option.bind_assoc, loopF_nil, loopF_cons, loopLc_nil, loopLc_cons, loopW_succ, items_list, items_tuple, items_sq, tupD_list, tupD_tuple, tupD_sq, lenD_list, lenD_tuple, lenD_sq, intD_int, intD_bool, absD_int, truD_none, truD_bool, truD_int, truD_list, truD_tuple, truD_sq, gIx_int, asB_bool, g1_one, g1L_one, g2i_two, gInt_two, res_d, res_bor, fz_d, fz_bor, andThen_nx, andThen_rt, andThen_ro, andThen_bk, andThen_ct, again_nx, again_ct, again_bk, again_rt, again_ro, ended_rt, ended_nx, ended_ro, endedO_ro, fzs, eA, ress, outsOf, argsD, setOuts, gsCons, gsNil, argEnv, wipeE, restE, turnLc, maxD, minD, plus_int, sub_int, int_eq, int_ne, int_lt, int_le, int_gt, int_ge, oNone, oSome, pick, atI_0, atI_1, atI_2, isOf_seq]
    apply lc_data_k (φ := toT)
    · intro d hd
      have := depthAll_mem hd
      simp [fVar_ap, fC_ap, fTup_ap, fLst_ap, fOp_ap, fB_ap, fCall_ap, fAnd_ap, fOr_ap, fNot_ap, fIf_ap, fV_ap, fAndV_ap, fOrV_ap, fL_ap, fDisp_ap, fSeq_ap, fEnum_ap, fZip_ap, gSh_ap, gTupF_ap, fLc_ap, fYes_ap, fNil_ap, fThen_ap, fAsg_ap, fOwn_ap, fAsgT_ap, fRet_ap, fRetF_ap, fRetN_ap, fBk_ap, fCt_ap, fDrop_ap, fIfS_ap, fFor_ap, fCallD_ap, fG1_ap, fIsi_ap, fSl_ap, fSlF_ap, fD_ap, fOwnD_ap, fDc_ap, fT_ap, fOrT_ap, fAndT_ap, fOrF_ap, storeD_ap, fPut_ap, fCallO_ap, fCallL_ap, appD_ap, fApp_ap, fDg_ap, fNegI_ap, fPar_ap, fCallKw_ap, fChain_ap, fGet2_ap, fGet1_ap, fWalk_ap, fNotT_ap, fNotV_ap, fG1F_ap, fOpF_ap, fCallF_ap, runD_ap, runO_ap, Option.bind_assoc, loopF_nil, loopF_cons, loopLc_nil, loopLc_cons, loopW_succ, items_list, items_tuple, items_sq, tupD_list, tupD_tuple, tupD_sq, lenD_list, lenD_tuple, lenD_sq, intD_int, intD_bool, absD_int, truD_none, truD_bool, truD_int, truD_list, truD_tuple, truD_sq, gIx_int, asB_bool, g1_one, g1L_one, g2i_two, gInt_two, res_d, res_bor, fz_d, fz_bor, andThen_nx, andThen_rt, andThen_ro, andThen_bk, andThen_ct, again_nx, again_ct, again_bk, again_rt, again_ro, ended_rt, ended_nx, ended_ro, endedO_ro, fzs, eA, ress, outsOf, argsD, setOuts, gsCons, gsNil, argEnv, wipeE, restE, turnLc, maxD, minD, plus_int, sub_int, int_eq, int_ne, int_lt, int_le, int_gt, int_ge, oNone, oSome, pick, atI_0, atI_1, atI_2, as_tuples_F n d (by omega)]
    · simp [fVar_ap, fC_ap, fTup_ap, fLst_ap, fOp_ap, fB_ap, fCall_ap, fAnd_ap, fOr_ap, fNot_ap, fIf_ap, fV_ap, fAndV_ap, fOrV_ap, fL_ap, fDisp_ap, fSeq_ap, fEnum_ap, fZip_ap, gSh_ap, gTupF_ap, fLc_ap, fYes_ap, fNil_ap, fThen_ap, fAsg_ap, fOwn_ap, fAsgT_ap, fRet_ap, fRetF_ap, fRetN_ap, fBk_ap, fCt_ap, fDrop_ap, fIfS_ap, fFor_ap, fCallD_ap, fG1_ap, fIsi_ap, fSl_ap, fSlF_ap, fD_ap, fOwnD_ap, fDc_ap, fT_ap, fOrT_ap, fAndT_ap, fOrF_ap, storeD_ap, fPut_ap, fCallO_ap, fCallL_ap, appD_ap, fApp_ap, fDg_ap, fNegI_ap, fPar_ap, fCallKw_ap, fChain_ap, fGet2_ap, fGet1_ap, fWalk_ap, fNotT_ap, fNotV_ap, fG1F_ap, fOpF_ap, fCallF_ap, runD_ap, runO_ap, Option.bind_assoc, loopF_nil, loopF_cons, loopLc_nil, loopLc_cons, loopW_succ, items_list, items_tuple, items_sq, tupD_list, tupD_tuple, tupD_sq, lenD_list, lenD_tuple, lenD_sq, intD_int, intD_bool, absD_int, truD_none, truD_bool, truD_int, truD_list, truD_tuple, truD_sq, gIx_int, asB_bool, g1_one, g1L_one, g2i_two, gInt_two, res_d, res_bor, fz_d, fz_bor, andThen_nx, andThen_rt, andThen_ro, andThen_bk, andThen_ct, again_nx, again_ct, again_bk, again_rt, again_ro, ended_rt, ended_nx, ended_ro, endedO_ro, fzs, eA, ress, outsOf, argsD, setOuts, gsCons, gsNil, argEnv, wipeE, restE, turnLc, maxD, minD, plus_int, sub_int, int_eq, int_ne, int_lt, int_le, int_gt, int_ge, oNone, oSome, pick, atI_0, atI_1, atI_2, toT, toTs_map]
  | n + 1, .none, h => by simp only [F_as_tuples, f_as_tuples]; simp [fVar_ap, fC_ap, fTup_ap, fLst_ap, fOp_ap, fB_ap, fCall_ap, fAnd_ap, fOr_ap, fNot_ap, fIf_ap, fV_ap, fAndV_ap, fOrV_ap, fL_ap, fDisp_ap, fSeq_ap, fEnum_ap, fZip_ap, gSh_ap, gTupF_ap, fLc_ap, fYes_ap, fNil_ap, fThen_ap, fAsg_ap, fOwn_ap, fAsgT_ap, fRet_ap, fRetF_ap, fRetN_ap, fBk_ap, fCt_ap, fDrop_ap, fIfS_ap, fFor_ap, fCallD_ap, fG1_ap, fIsi_ap, fSl_ap, fSlF_ap, fD_ap, fOwnD_ap, fDc_ap, fT_ap, fOrT_ap, fAndT_ap, fOrF_ap, storeD_ap, fPut_ap, fCallO_ap, fCallL_ap, appD_ap, fApp_ap, fDg_ap, fNegI_ap, fPar_ap, fCallKw_ap, fChain_ap, fGet2_ap, fGet1_ap, fWalk_ap, fNotT_ap, fNotV_ap, fG1F_ap, fOpF_ap, fCallF_ap, runD_ap, runO_ap, Option.bind_assoc, loopF_nil, loopF_cons, loopLc_nil, loopLc_cons, loopW_succ, items_list, items_tuple, items_sq, tupD_list, tupD_tuple, tupD_sq, lenD_list, lenD_tuple, lenD_sq, intD_int, intD_bool, absD_int, truD_none, truD_bool, truD_int, truD_list, truD_tuple, truD_sq, gIx_int, asB_bool, g1_one, g1L_one, g2i_two, gInt_two, res_d, res_bor, fz_d, fz_bor, andThen_nx, andThen_rt, andThen_ro, andThen_bk, andThen_ct, again_nx, again_ct, again_bk, again_rt, again_ro, ended_rt, ended_nx, ended_ro, endedO_ro, fzs, eA, ress, outsOf, argsD, setOuts, gsCons, gsNil, argEnv, wipeE, restE, turnLc, maxD, minD, plus_int, sub_int, int_eq, int_ne, int_lt, int_le, int_gt, int_ge, oNone, oSome, pick, atI_0, atI_1, atI_2, isOf_seq, toT]
  | n + 1, .bool _, h => by simp only [F_as_tuples, f_as_tuples]; simp [fVar_ap, fC_ap, fTup_ap, fLst_ap, fOp_ap, fB_ap, fCall_ap, fAnd_ap, fOr_ap, fNot_ap, fIf_ap, fV_ap, fAndV_ap, fOrV_ap, fL_ap, fDisp_ap, fSeq_ap, fEnum_ap, fZip_ap, gSh_ap, gTupF_ap, fLc_ap, fYes_ap, fNil_ap, fThen_ap, fAsg_ap, fOwn_ap, fAsgT_ap, fRet_ap, fRetF_ap, fRetN_ap, fBk_ap, fCt_ap, fDrop_ap, fIfS_ap, fFor_ap, fCallD_ap, fG1_ap, fIsi_ap, fSl_ap, fSlF_ap, fD_ap, fOwnD_ap, fDc_ap, fT_ap, fOrT_ap, fAndT_ap, fOrF_ap, storeD_ap, fPut_ap, fCallO_ap, fCallL_ap, appD_ap, fApp_ap, fDg_ap, fNegI_ap, fPar_ap, fCallKw_ap, fChain_ap, fGet2_ap, fGet1_ap, fWalk_ap, fNotT_ap, fNotV_ap, fG1F_ap, fOpF_ap, fCallF_ap, runD_ap, runO_ap, Option.bind_assoc, loopF_nil, loopF_cons, loopLc_nil, loopLc_cons, loopW_succ, items_list, items_tuple, items_sq, tupD_list, tupD_tuple, tupD_sq, lenD_list, lenD_tuple, lenD_sq, intD_int, intD_bool, absD_int, truD_none, truD_bool, truD_int, truD_list, truD_tuple, truD_sq, gIx_int, asB_bool, g1_one, g1L_one, g2i_two, gInt_two, res_d, res_bor, fz_d, fz_bor, andThen_nx, andThen_rt, andThen_ro, andThen_bk, andThen_ct, again_nx, again_ct, again_bk, again_rt, again_ro, ended_rt, ended_nx, ended_ro, endedO_ro, fzs, eA, ress, outsOf, argsD, setOuts, gsCons, gsNil, argEnv, wipeE, restE, turnLc, maxD, minD, plus_int, sub_int, int_eq, int_ne, int_lt, int_le, int_gt, int_ge, oNone, oSome, pick, atI_0, atI_1, atI_2, isOf_seq, toT]
  | n + 1, .int _, h => by simp only [F_as_tuples, f_as_tuples]; simp [fVar_ap, fC_ap, fTup_ap, fLst_ap, fOp_ap, fB_ap, fCall_ap, fAnd_ap, fOr_ap, fNot_ap, fIf_ap, fV_ap, fAndV_ap, fOrV_ap, fL_ap, fDisp_ap, fSeq_ap, fEnum_ap, fZip_ap, gSh_ap, gTupF_ap, fLc_ap, fYes_ap, fNil_ap, fThen_ap, fAsg_ap, fOwn_ap, fAsgT_ap, fRet_ap, fRetF_ap, fRetN_ap, fBk_ap, fCt_ap, fDrop_ap, fIfS_ap, fFor_ap, fCallD_ap, fG1_ap, fIsi_ap, fSl_ap, fSlF_ap, fD_ap, fOwnD_ap, fDc_ap, fT_ap, fOrT_ap, fAndT_ap, fOrF_ap, storeD_ap, fPut_ap, fCallO_ap, fCallL_ap, appD_ap, fApp_ap, fDg_ap, fNegI_ap, fPar_ap, fCallKw_ap, fChain_ap, fGet2_ap, fGet1_ap, fWalk_ap, fNotT_ap, fNotV_ap, fG1F_ap, fOpF_ap, fCallF_ap, runD_ap, runO_ap, Option.bind_assoc, loopF_nil, loopF_cons, loopLc_nil, loopLc_cons, loopW_succ, items_list, items_tuple, items_sq, tupD_list, tupD_tuple, tupD_sq, lenD_list, lenD_tuple, lenD_sq, intD_int, intD_bool, absD_int, truD_none, truD_bool, truD_int, truD_list, truD_tuple, truD_sq, gIx_int, asB_bool, g1_one, g1L_one, g2i_two, gInt_two, res_d, res_bor, fz_d, fz_bor, andThen_nx, andThen_rt, andThen_ro, andThen_bk, andThen_ct, again_nx, again_ct, again_bk, again_rt, again_ro, ended_rt, ended_nx, ended_ro, endedO_ro, fzs, eA, ress, outsOf, argsD, setOuts, gsCons, gsNil, argEnv, wipeE, restE, turnLc, maxD, minD, plus_int, sub_int, int_eq, int_ne, int_lt, int_le, int_gt, int_ge, oNone, oSome, pick, atI_0, atI_1, atI_2, isOf_seq, toT]
  | n + 1, .str _, h => by simp only [F_as_tuples, f_as_tuples]; simp [fVar_ap, fC_ap, fTup_ap, fLst_ap, fOp_ap, fB_ap, fCall_ap, fAnd_ap, fOr_ap, fNot_ap, fIf_ap, fV_ap, fAndV_ap, fOrV_ap, fL_ap, fDisp_ap, fSeq_ap, fEnum_ap, fZip_ap, gSh_ap, gTupF_ap, fLc_ap, fYes_ap, fNil_ap, fThen_ap, fAsg_ap, fOwn_ap, fAsgT_ap, fRet_ap, fRetF_ap, fRetN_ap, fBk_ap, fCt_ap, fDrop_ap, fIfS_ap, fFor_ap, fCallD_ap, fG1_ap, fIsi_ap, fSl_ap, fSlF_ap, fD_ap, fOwnD_ap, fDc_ap, fT_ap, fOrT_ap, fAndT_ap, fOrF_ap, storeD_ap, fPut_ap, fCallO_ap, fCallL_ap, appD_ap, fApp_ap, fDg_ap, fNegI_ap, fPar_ap, fCallKw_ap, fChain_ap, fGet2_ap, fGet1_ap, fWalk_ap, fNotT_ap, fNotV_ap, fG1F_ap, fOpF_ap, fCallF_ap, runD_ap, runO_ap, Option.bind_assoc, loopF_nil, loopF_cons, loopLc_nil, loopLc_cons, loopW_succ, items_list, items_tuple, items_sq, tupD_list, tupD_tuple, tupD_sq, lenD_list, lenD_tuple, lenD_sq, intD_int, intD_bool, absD_int, truD_none, truD_bool, truD_int, truD_list, truD_tuple, truD_sq, gIx_int, asB_bool, g1_one, g1L_one, g2i_two, gInt_two, res_d, res_bor, fz_d, fz_bor, andThen_nx, andThen_rt, andThen_ro, andThen_bk, andThen_ct, again_nx, again_ct, again_bk, again_rt, again_ro, ended_rt, ended_nx, ended_ro, endedO_ro, fzs, eA, ress, outsOf, argsD, setOuts, gsCons, gsNil, argEnv, wipeE, restE, turnLc, maxD, minD, plus_int, sub_int, int_eq, int_ne, int_lt, int_le, int_gt, int_ge, oNone, oSome, pick, atI_0, atI_1, atI_2, isOf_seq, toT]
  | n + 1, .dict _, h => by simp only [F_as_tuples, f_as_tuples]; simp [fVar_ap, fC_ap, fTup_ap, fLst_ap, fOp_ap, fB_ap, fCall_ap, fAnd_ap, fOr_ap, fNot_ap, fIf_ap, fV_ap, fAndV_ap, fOrV_ap, fL_ap, fDisp_ap, fSeq_ap, fEnum_ap, fZip_ap, gSh_ap, gTupF_ap, fLc_ap, fYes_ap, fNil_ap, fThen_ap, fAsg_ap, fOwn_ap, fAsgT_ap, fRet_ap, fRetF_ap, fRetN_ap, fBk_ap, fCt_ap, fDrop_ap, fIfS_ap, fFor_ap, fCallD_ap, fG1_ap, fIsi_ap, fSl_ap, fSlF_ap, fD_ap, fOwnD_ap, fDc_ap, fT_ap, fOrT_ap, fAndT_ap, fOrF_ap, storeD_ap, fPut_ap, fCallO_ap, fCallL_ap, appD_ap, fApp_ap, fDg_ap, fNegI_ap, fPar_ap, fCallKw_ap, fChain_ap, fGet2_ap, fGet1_ap, fWalk_ap, fNotT_ap, fNotV_ap, fG1F_ap, fOpF_ap, fCallF_ap, runD_ap, runO_ap, Option.bind_assoc, loopF_nil, loopF_cons, loopLc_nil, loopLc_cons, loopW_succ, items_list, items_tuple, items_sq, tupD_list, tupD_tuple, tupD_sq, lenD_list, lenD_tuple, lenD_sq, intD_int, intD_bool, absD_int, truD_none, truD_bool, truD_int, truD_list, truD_tuple, truD_sq, gIx_int, asB_bool, g1_one, g1L_one, g2i_two, gInt_two, res_d, res_bor, fz_d, fz_bor, andThen_nx, andThen_rt, andThen_ro, andThen_bk, andThen_ct, again_nx, again_ct, again_bk, again_rt, again_ro, ended_rt, ended_nx, ended_ro, endedO_ro, fzs, eA, ress, outsOf, argsD, setOuts, gsCons, gsNil, argEnv, wipeE, restE, turnLc, maxD, minD, plus_int, sub_int, int_eq, int_ne, int_lt, int_le, int_gt, int_ge, oNone, oSome, pick, atI_0, atI_1, atI_2, isOf_seq, toT]
theorem eq_self {d : PyData} (h : PyData.canLay0 d = true) (k : d.depth ≤ 64) (e : PyData.eqv d d = true) : gEq d d = some (.bool true) := by
  unfold gEq
  have s : PySem.SeqAt.shaped d = true := by
    unfold PySem.SeqAt.shaped
    rw [h, Bool.true_and, decide_eq_true_eq]
    exact k
  rw [if_pos ⟨s, s⟩, e]
theorem same_F : ∀ (n : Nat) (d : PyData), d.depth < n → PyData.canLay0 d = true → F__law_same n [d, d] = some (.bool true, [])
  | 0, d, h, _ => by omega
  | n + 1, .list ds, h, c => by
    simp only [PyData.depth] at h
    simp only [PyData.canLay0] at c
    simp only [F__law_same, f__law_same]
    simp [fVar_ap, fC_ap, fTup_ap, fLst_ap, fOp_ap, fB_ap, fCall_ap, fAnd_ap, fOr_ap, fNot_ap, fIf_ap, fV_ap, fAndV_ap, fOrV_ap, fL_ap, fDisp_ap, fSeq_ap, fEnum_ap, fZip_ap, gSh_ap, gTupF_ap, fLc_ap, fYes_ap, fNil_ap, fThen_ap, fAsg_ap, fOwn_ap, fAsgT_ap, fRet_ap, fRetF_ap, fRetN_ap, fBk_ap, fCt_ap, fDrop_ap, fIfS_ap, fFor_ap, fCallD_ap, fG1_ap, fIsi_ap, fSl_ap, fSlF_ap, fD_ap, fOwnD_ap, fDc_ap, fT_ap, fOrT_ap, fAndT_ap, fOrF_ap, storeD_ap, fPut_ap, fCallO_ap, fCallL_ap, appD_ap, fApp_ap, fDg_ap, fNegI_ap, fPar_ap, fCallKw_ap, fChain_ap, fGet2_ap, fGet1_ap, fWalk_ap, fNotT_ap, fNotV_ap, fG1F_ap, fOpF_ap, fCallF_ap, runD_ap, runO_ap, Option.bind_assoc, loopF_nil, loopF_cons, loopLc_nil, loopLc_cons, loopW_succ, items_list, items_tuple, items_sq, tupD_list, tupD_tuple, tupD_sq, lenD_list, lenD_tuple, lenD_sq, intD_int, intD_bool, absD_int, truD_none, truD_bool, truD_int, truD_list, truD_tuple, truD_sq, gIx_int, asB_bool, g1_one, g1L_one, g2i_two, gInt_two, res_d, res_bor, fz_d, fz_bor, andThen_nx, andThen_rt, andThen_ro, andThen_bk, andThen_ct, again_nx, again_ct, again_bk, again_rt, again_ro, ended_rt, ended_nx, ended_ro, endedO_ro, fzs, eA, ress, outsOf, argsD, setOuts, gsCons, gsNil, argEnv, wipeE, restE, turnLc, maxD, minD, plus_int, sub_int, int_eq, int_ne, int_lt, int_le, int_gt, int_ge, oNone, oSome, pick, atI_0, atI_1, atI_2, isOf_seq, isOf_list, isOf_tuple, eq_bool, ne_bool, zipG]
    apply lc_data_k (φ := fun _ => .bool true)
    · intro p hp
      obtain ⟨⟨x, y⟩, hm, rfl⟩ := List.mem_map.mp hp
      have : x ∈ ds ∧ x = y := by
        rw [List.mem_iff_getElem] at hm
        obtain ⟨i, hi, e⟩ := hm
        rw [List.getElem_zip, Prod.mk.injEq] at e
        exact ⟨by rw [← e.1]; exact List.getElem_mem _, by rw [← e.1, ← e.2]⟩
      obtain ⟨hx, rfl⟩ := this
      have := depthAll_mem hx
      simp [fVar_ap, fC_ap, fTup_ap, fLst_ap, fOp_ap, fB_ap, fCall_ap, fAnd_ap, fOr_ap, fNot_ap, fIf_ap, fV_ap, fAndV_ap, fOrV_ap, fL_ap, fDisp_ap, fSeq_ap, fEnum_ap, fZip_ap, gSh_ap, gTupF_ap, fLc_ap, fYes_ap, fNil_ap, fThen_ap, fAsg_ap, fOwn_ap, fAsgT_ap, fRet_ap, fRetF_ap, fRetN_ap, fBk_ap, fCt_ap, fDrop_ap, fIfS_ap, fFor_ap, fCallD_ap, fG1_ap, fIsi_ap, fSl_ap, fSlF_ap, fD_ap, fOwnD_ap, fDc_ap, fT_ap, fOrT_ap, fAndT_ap, fOrF_ap, storeD_ap, fPut_ap, fCallO_ap, fCallL_ap, appD_ap, fApp_ap, fDg_ap, fNegI_ap, fPar_ap, fCallKw_ap, fChain_ap, fGet2_ap, fGet1_ap, fWalk_ap, fNotT_ap, fNotV_ap, fG1F_ap, fOpF_ap, fCallF_ap, runD_ap, runO_ap, Option.bind_assoc, loopF_nil, loopF_cons, loopLc_nil, loopLc_cons, loopW_succ, items_list, items_tuple, items_sq, tupD_list, tupD_tuple, tupD_sq, lenD_list, lenD_tuple, lenD_sq, intD_int, intD_bool, absD_int, truD_none, truD_bool, truD_int, truD_list, truD_tuple, truD_sq, gIx_int, asB_bool, g1_one, g1L_one, g2i_two, gInt_two, res_d, res_bor, fz_d, fz_bor, andThen_nx, andThen_rt, andThen_ro, andThen_bk, andThen_ct, again_nx, again_ct, again_bk, again_rt, again_ro, ended_rt, ended_nx, ended_ro, endedO_ro, fzs, eA, ress, outsOf, argsD, setOuts, gsCons, gsNil, argEnv, wipeE, restE, turnLc, maxD, minD, plus_int, sub_int, int_eq, int_ne, int_lt, int_le, int_gt, int_ge, oNone, oSome, pick, atI_0, atI_1, atI_2, same_F n x (by omega) (canAll_mem hx c)]
    · have := all_map (fun _ : PyData => true) (zipD ds ds)
      simp [fVar_ap, fC_ap, fTup_ap, fLst_ap, fOp_ap, fB_ap, fCall_ap, fAnd_ap, fOr_ap, fNot_ap, fIf_ap, fV_ap, fAndV_ap, fOrV_ap, fL_ap, fDisp_ap, fSeq_ap, fEnum_ap, fZip_ap, gSh_ap, gTupF_ap, fLc_ap, fYes_ap, fNil_ap, fThen_ap, fAsg_ap, fOwn_ap, fAsgT_ap, fRet_ap, fRetF_ap, fRetN_ap, fBk_ap, fCt_ap, fDrop_ap, fIfS_ap, fFor_ap, fCallD_ap, fG1_ap, fIsi_ap, fSl_ap, fSlF_ap, fD_ap, fOwnD_ap, fDc_ap, fT_ap, fOrT_ap, fAndT_ap, fOrF_ap, storeD_ap, fPut_ap, fCallO_ap, fCallL_ap, appD_ap, fApp_ap, fDg_ap, fNegI_ap, fPar_ap, fCallKw_ap, fChain_ap, fGet2_ap, fGet1_ap, fWalk_ap, fNotT_ap, fNotV_ap, fG1F_ap, fOpF_ap, fCallF_ap, runD_ap, runO_ap, Option.bind_assoc, loopF_nil, loopF_cons, loopLc_nil, loopLc_cons, loopW_succ, items_list, items_tuple, items_sq, tupD_list, tupD_tuple, tupD_sq, lenD_list, lenD_tuple, lenD_sq, intD_int, intD_bool, absD_int, truD_none, truD_bool, truD_int, truD_list, truD_tuple, truD_sq, gIx_int, asB_bool, g1_one, g1L_one, g2i_two, gInt_two, res_d, res_bor, fz_d, fz_bor, andThen_nx, andThen_rt, andThen_ro, andThen_bk, andThen_ct, again_nx, again_ct, again_bk, again_rt, again_ro, ended_rt, ended_nx, ended_ro, endedO_ro, fzs, eA, ress, outsOf, argsD, setOuts, gsCons, gsNil, argEnv, wipeE, restE, turnLc, maxD, minD, plus_int, sub_int, int_eq, int_ne, int_lt, int_le, int_gt, int_ge, oNone, oSome, pick, atI_0, atI_1, atI_2, this]
  | n + 1, .tuple ds, h, c => by
    simp only [PyData.depth] at h
    simp only [PyData.canLay0] at c
    simp only [F__law_same, f__law_same]
    simp [fVar_ap, fC_ap, fTup_ap, fLst_ap, fOp_ap, fB_ap, fCall_ap, fAnd_ap, fOr_ap, fNot_ap, fIf_ap, fV_ap, fAndV_ap, fOrV_ap, fL_ap, fDisp_ap, fSeq_ap, fEnum_ap, fZip_ap, gSh_ap, gTupF_ap, fLc_ap, fYes_ap, fNil_ap, fThen_ap, fAsg_ap, fOwn_ap, fAsgT_ap, fRet_ap, fRetF_ap, fRetN_ap, fBk_ap, fCt_ap, fDrop_ap, fIfS_ap, fFor_ap, fCallD_ap, fG1_ap, fIsi_ap, fSl_ap, fSlF_ap, fD_ap, fOwnD_ap, fDc_ap, fT_ap, fOrT_ap, fAndT_ap, fOrF_ap, storeD_ap, fPut_ap, fCallO_ap, fCallL_ap, appD_ap, fApp_ap, fDg_ap, fNegI_ap, fPar_ap, fCallKw_ap, fChain_ap, fGet2_ap, fGet1_ap, fWalk_ap, fNotT_ap, fNotV_ap, fG1F_ap, fOpF_ap, fCallF_ap, runD_ap, runO_ap, Option.bind_assoc, loopF_nil, loopF_cons, loopLc_nil, loopLc_cons, loopW_succ, items_list, items_tuple, items_sq, tupD_list, tupD_tuple, tupD_sq, lenD_list, lenD_tuple, lenD_sq, intD_int, intD_bool, absD_int, truD_none, truD_bool, truD_int, truD_list, truD_tuple, truD_sq, gIx_int, asB_bool, g1_one, g1L_one, g2i_two, gInt_two, res_d, res_bor, fz_d, fz_bor, andThen_nx, andThen_rt, andThen_ro, andThen_bk, andThen_ct, again_nx, again_ct, again_bk, again_rt, again_ro, ended_rt, ended_nx, ended_ro, endedO_ro, fzs, eA, ress, outsOf, argsD, setOuts, gsCons, gsNil, argEnv, wipeE, restE, turnLc, maxD, minD, plus_int, sub_int, int_eq, int_ne, int_lt, int_le, int_gt, int_ge, oNone, oSome, pick, atI_0, atI_1, atI_2, isOf_seq, isOf_list, isOf_tuple, eq_bool, ne_bool, zipG]
    apply lc_data_k (φ := fun _ => .bool true)
    · intro p hp
      obtain ⟨⟨x, y⟩, hm, rfl⟩ := List.mem_map.mp hp
      have : x ∈ ds ∧ x = y := by
        rw [List.mem_iff_getElem] at hm
        obtain ⟨i, hi, e⟩ := hm
        rw [List.getElem_zip, Prod.mk.injEq] at e
        exact ⟨by rw [← e.1]; exact List.getElem_mem _, by rw [← e.1, ← e.2]⟩
      obtain ⟨hx, rfl⟩ := this
      have := depthAll_mem hx
      simp [fVar_ap, fC_ap, fTup_ap, fLst_ap, fOp_ap, fB_ap, fCall_ap, fAnd_ap, fOr_ap, fNot_ap, fIf_ap, fV_ap, fAndV_ap, fOrV_ap, fL_ap, fDisp_ap, fSeq_ap, fEnum_ap, fZip_ap, gSh_ap, gTupF_ap, fLc_ap, fYes_ap, fNil_ap, fThen_ap, fAsg_ap, fOwn_ap, fAsgT_ap, fRet_ap, fRetF_ap, fRetN_ap, fBk_ap, fCt_ap, fDrop_ap, fIfS_ap, fFor_ap, fCallD_ap, fG1_ap, fIsi_ap, fSl_ap, fSlF_ap, fD_ap, fOwnD_ap, fDc_ap, fT_ap, fOrT_ap, fAndT_ap, fOrF_ap, storeD_ap, fPut_ap, fCallO_ap, fCallL_ap, appD_ap, fApp_ap, fDg_ap, fNegI_ap, fPar_ap, fCallKw_ap, fChain_ap, fGet2_ap, fGet1_ap, fWalk_ap, fNotT_ap, fNotV_ap, fG1F_ap, fOpF_ap, fCallF_ap, runD_ap, runO_ap, Option.bind_assoc, loopF_nil, loopF_cons, loopLc_nil, loopLc_cons, loopW_succ, items_list, items_tuple, items_sq, tupD_list, tupD_tuple, tupD_sq, lenD_list, lenD_tuple, lenD_sq, intD_int, intD_bool, absD_int, truD_none, truD_bool, truD_int, truD_list, truD_tuple, truD_sq, gIx_int, asB_bool, g1_one, g1L_one, g2i_two, gInt_two, res_d, res_bor, fz_d, fz_bor, andThen_nx, andThen_rt, andThen_ro, andThen_bk, andThen_ct, again_nx, again_ct, again_bk, again_rt, again_ro, ended_rt, ended_nx, ended_ro, endedO_ro, fzs, eA, ress, outsOf, argsD, setOuts, gsCons, gsNil, argEnv, wipeE, restE, turnLc, maxD, minD, plus_int, sub_int, int_eq, int_ne, int_lt, int_le, int_gt, int_ge, oNone, oSome, pick, atI_0, atI_1, atI_2, same_F n x (by omega) (canAll_mem hx c)]
    · have := all_map (fun _ : PyData => true) (zipD ds ds)
      simp [fVar_ap, fC_ap, fTup_ap, fLst_ap, fOp_ap, fB_ap, fCall_ap, fAnd_ap, fOr_ap, fNot_ap, fIf_ap, fV_ap, fAndV_ap, fOrV_ap, fL_ap, fDisp_ap, fSeq_ap, fEnum_ap, fZip_ap, gSh_ap, gTupF_ap, fLc_ap, fYes_ap, fNil_ap, fThen_ap, fAsg_ap, fOwn_ap, fAsgT_ap, fRet_ap, fRetF_ap, fRetN_ap, fBk_ap, fCt_ap, fDrop_ap, fIfS_ap, fFor_ap, fCallD_ap, fG1_ap, fIsi_ap, fSl_ap, fSlF_ap, fD_ap, fOwnD_ap, fDc_ap, fT_ap, fOrT_ap, fAndT_ap, fOrF_ap, storeD_ap, fPut_ap, fCallO_ap, fCallL_ap, appD_ap, fApp_ap, fDg_ap, fNegI_ap, fPar_ap, fCallKw_ap, fChain_ap, fGet2_ap, fGet1_ap, fWalk_ap, fNotT_ap, fNotV_ap, fG1F_ap, fOpF_ap, fCallF_ap, runD_ap, runO_ap, Option.bind_assoc, loopF_nil, loopF_cons, loopLc_nil, loopLc_cons, loopW_succ, items_list, items_tuple, items_sq, tupD_list, tupD_tuple, tupD_sq, lenD_list, lenD_tuple, lenD_sq, intD_int, intD_bool, absD_int, truD_none, truD_bool, truD_int, truD_list, truD_tuple, truD_sq, gIx_int, asB_bool, g1_one, g1L_one, g2i_two, gInt_two, res_d, res_bor, fz_d, fz_bor, andThen_nx, andThen_rt, andThen_ro, andThen_bk, andThen_ct, again_nx, again_ct, again_bk, again_rt, again_ro, ended_rt, ended_nx, ended_ro, endedO_ro, fzs, eA, ress, outsOf, argsD, setOuts, gsCons, gsNil, argEnv, wipeE, restE, turnLc, maxD, minD, plus_int, sub_int, int_eq, int_ne, int_lt, int_le, int_gt, int_ge, oNone, oSome, pick, atI_0, atI_1, atI_2, this]
  | n + 1, .none, h, c => by
    simp only [F__law_same, f__law_same]
    simp [fVar_ap, fC_ap, fTup_ap, fLst_ap, fOp_ap, fB_ap, fCall_ap, fAnd_ap, fOr_ap, fNot_ap, fIf_ap, fV_ap, fAndV_ap, fOrV_ap, fL_ap, fDisp_ap, fSeq_ap, fEnum_ap, fZip_ap, gSh_ap, gTupF_ap, fLc_ap, fYes_ap, fNil_ap, fThen_ap, fAsg_ap, fOwn_ap, fAsgT_ap, fRet_ap, fRetF_ap, fRetN_ap, fBk_ap, fCt_ap, fDrop_ap, fIfS_ap, fFor_ap, fCallD_ap, fG1_ap, fIsi_ap, fSl_ap, fSlF_ap, fD_ap, fOwnD_ap, fDc_ap, fT_ap, fOrT_ap, fAndT_ap, fOrF_ap, storeD_ap, fPut_ap, fCallO_ap, fCallL_ap, appD_ap, fApp_ap, fDg_ap, fNegI_ap, fPar_ap, fCallKw_ap, fChain_ap, fGet2_ap, fGet1_ap, fWalk_ap, fNotT_ap, fNotV_ap, fG1F_ap, fOpF_ap, fCallF_ap, runD_ap, runO_ap, Option.bind_assoc, loopF_nil, loopF_cons, loopLc_nil, loopLc_cons, loopW_succ, items_list, items_tuple, items_sq, tupD_list, tupD_tuple, tupD_sq, lenD_list, lenD_tuple, lenD_sq, intD_int, intD_bool, absD_int, truD_none, truD_bool, truD_int, truD_list, truD_tuple, truD_sq, gIx_int, asB_bool, g1_one, g1L_one, g2i_two, gInt_two, res_d, res_bor, fz_d, fz_bor, andThen_nx, andThen_rt, andThen_ro, andThen_bk, andThen_ct, again_nx, again_ct, again_bk, again_rt, again_ro, ended_rt, ended_nx, ended_ro, endedO_ro, fzs, eA, ress, outsOf, argsD, setOuts, gsCons, gsNil, argEnv, wipeE, restE, turnLc, maxD, minD, plus_int, sub_int, int_eq, int_ne, int_lt, int_le, int_gt, int_ge, oNone, oSome, pick, atI_0, atI_1, atI_2, isOf_seq, isOf_bool, isOf_boolstr, isN_eq, isNo, eq_bool, eq_self (d := .none) rfl (by simp [PyData.depth]) (by simp [PyData.eqv])]
  | n + 1, .bool b, h, c => by
    simp only [F__law_same, f__law_same]
    simp [fVar_ap, fC_ap, fTup_ap, fLst_ap, fOp_ap, fB_ap, fCall_ap, fAnd_ap, fOr_ap, fNot_ap, fIf_ap, fV_ap, fAndV_ap, fOrV_ap, fL_ap, fDisp_ap, fSeq_ap, fEnum_ap, fZip_ap, gSh_ap, gTupF_ap, fLc_ap, fYes_ap, fNil_ap, fThen_ap, fAsg_ap, fOwn_ap, fAsgT_ap, fRet_ap, fRetF_ap, fRetN_ap, fBk_ap, fCt_ap, fDrop_ap, fIfS_ap, fFor_ap, fCallD_ap, fG1_ap, fIsi_ap, fSl_ap, fSlF_ap, fD_ap, fOwnD_ap, fDc_ap, fT_ap, fOrT_ap, fAndT_ap, fOrF_ap, storeD_ap, fPut_ap, fCallO_ap, fCallL_ap, appD_ap, fApp_ap, fDg_ap, fNegI_ap, fPar_ap, fCallKw_ap, fChain_ap, fGet2_ap, fGet1_ap, fWalk_ap, fNotT_ap, fNotV_ap, fG1F_ap, fOpF_ap, fCallF_ap, runD_ap, runO_ap, Option.bind_assoc, loopF_nil, loopF_cons, loopLc_nil, loopLc_cons, loopW_succ, items_list, items_tuple, items_sq, tupD_list, tupD_tuple, tupD_sq, lenD_list, lenD_tuple, lenD_sq, intD_int, intD_bool, absD_int, truD_none, truD_bool, truD_int, truD_list, truD_tuple, truD_sq, gIx_int, asB_bool, g1_one, g1L_one, g2i_two, gInt_two, res_d, res_bor, fz_d, fz_bor, andThen_nx, andThen_rt, andThen_ro, andThen_bk, andThen_ct, again_nx, again_ct, again_bk, again_rt, again_ro, ended_rt, ended_nx, ended_ro, endedO_ro, fzs, eA, ress, outsOf, argsD, setOuts, gsCons, gsNil, argEnv, wipeE, restE, turnLc, maxD, minD, plus_int, sub_int, int_eq, int_ne, int_lt, int_le, int_gt, int_ge, oNone, oSome, pick, atI_0, atI_1, atI_2, isOf_seq, isOf_bool, isOf_boolstr, isN_eq, isNo, eq_bool]
  | n + 1, .int b, h, c => by
    simp only [F__law_same, f__law_same]
    simp [fVar_ap, fC_ap, fTup_ap, fLst_ap, fOp_ap, fB_ap, fCall_ap, fAnd_ap, fOr_ap, fNot_ap, fIf_ap, fV_ap, fAndV_ap, fOrV_ap, fL_ap, fDisp_ap, fSeq_ap, fEnum_ap, fZip_ap, gSh_ap, gTupF_ap, fLc_ap, fYes_ap, fNil_ap, fThen_ap, fAsg_ap, fOwn_ap, fAsgT_ap, fRet_ap, fRetF_ap, fRetN_ap, fBk_ap, fCt_ap, fDrop_ap, fIfS_ap, fFor_ap, fCallD_ap, fG1_ap, fIsi_ap, fSl_ap, fSlF_ap, fD_ap, fOwnD_ap, fDc_ap, fT_ap, fOrT_ap, fAndT_ap, fOrF_ap, storeD_ap, fPut_ap, fCallO_ap, fCallL_ap, appD_ap, fApp_ap, fDg_ap, fNegI_ap, fPar_ap, fCallKw_ap, fChain_ap, fGet2_ap, fGet1_ap, fWalk_ap, fNotT_ap, fNotV_ap, fG1F_ap, fOpF_ap, fCallF_ap, runD_ap, runO_ap, Option.bind_assoc, loopF_nil, loopF_cons, loopLc_nil, loopLc_cons, loopW_succ, items_list, items_tuple, items_sq, tupD_list, tupD_tuple, tupD_sq, lenD_list, lenD_tuple, lenD_sq, intD_int, intD_bool, absD_int, truD_none, truD_bool, truD_int, truD_list, truD_tuple, truD_sq, gIx_int, asB_bool, g1_one, g1L_one, g2i_two, gInt_two, res_d, res_bor, fz_d, fz_bor, andThen_nx, andThen_rt, andThen_ro, andThen_bk, andThen_ct, again_nx, again_ct, again_bk, again_rt, again_ro, ended_rt, ended_nx, ended_ro, endedO_ro, fzs, eA, ress, outsOf, argsD, setOuts, gsCons, gsNil, argEnv, wipeE, restE, turnLc, maxD, minD, plus_int, sub_int, int_eq, int_ne, int_lt, int_le, int_gt, int_ge, oNone, oSome, pick, atI_0, atI_1, atI_2, isOf_seq, isOf_bool, isOf_boolstr, isOf_int, isN_eq, isNo, eq_bool]
  | n + 1, .str x, h, c => by
    simp only [F__law_same, f__law_same]
    simp [fVar_ap, fC_ap, fTup_ap, fLst_ap, fOp_ap, fB_ap, fCall_ap, fAnd_ap, fOr_ap, fNot_ap, fIf_ap, fV_ap, fAndV_ap, fOrV_ap, fL_ap, fDisp_ap, fSeq_ap, fEnum_ap, fZip_ap, gSh_ap, gTupF_ap, fLc_ap, fYes_ap, fNil_ap, fThen_ap, fAsg_ap, fOwn_ap, fAsgT_ap, fRet_ap, fRetF_ap, fRetN_ap, fBk_ap, fCt_ap, fDrop_ap, fIfS_ap, fFor_ap, fCallD_ap, fG1_ap, fIsi_ap, fSl_ap, fSlF_ap, fD_ap, fOwnD_ap, fDc_ap, fT_ap, fOrT_ap, fAndT_ap, fOrF_ap, storeD_ap, fPut_ap, fCallO_ap, fCallL_ap, appD_ap, fApp_ap, fDg_ap, fNegI_ap, fPar_ap, fCallKw_ap, fChain_ap, fGet2_ap, fGet1_ap, fWalk_ap, fNotT_ap, fNotV_ap, fG1F_ap, fOpF_ap, fCallF_ap, runD_ap, runO_ap, Option.bind_assoc, loopF_nil, loopF_cons, loopLc_nil, loopLc_cons, loopW_succ, items_list, items_tuple, items_sq, tupD_list, tupD_tuple, tupD_sq, lenD_list, lenD_tuple, lenD_sq, intD_int, intD_bool, absD_int, truD_none, truD_bool, truD_int, truD_list, truD_tuple, truD_sq, gIx_int, asB_bool, g1_one, g1L_one, g2i_two, gInt_two, res_d, res_bor, fz_d, fz_bor, andThen_nx, andThen_rt, andThen_ro, andThen_bk, andThen_ct, again_nx, again_ct, again_bk, again_rt, again_ro, ended_rt, ended_nx, ended_ro, endedO_ro, fzs, eA, ress, outsOf, argsD, setOuts, gsCons, gsNil, argEnv, wipeE, restE, turnLc, maxD, minD, plus_int, sub_int, int_eq, int_ne, int_lt, int_le, int_gt, int_ge, oNone, oSome, pick, atI_0, atI_1, atI_2, isOf_seq, isOf_bool, isOf_boolstr, isN_eq, isNo, eq_bool, eq_self (d := .str x) c (by simp [PyData.depth]) (by simp [PyData.eqv])]
  | n + 1, .dict _, h, c => by simp [PyData.canLay0] at c
end K03

set_option Elab.async false
set_option linter.all false
set_option maxRecDepth 100000
set_option maxHeartbeats 1000000
namespace Lnd
universe u
variable {α : Type u} [DecidableEq α]
theorem kept_next (ALL : List (List α)) (c : List (α × Bool)) (a : α) (b : Bool) : (ALL.filter fun s => keepsT s c).filter (fun s => decide (a ∈ s) == b) = ALL.filter fun s => keepsT s (c ++ [(a, b)]) := by
  rw [List.filter_filter]
  refine List.filter_congr fun s _ => ?_
  rw [keepsT_app, keepsT_one, Bool.and_comm]
theorem filter_len {β : Type u} (p : β → Bool) (l : List β) : (l.filter p).length = l.length ↔ l.filter p = l := by
  constructor
  · exact fun h => List.filter_sublist.eq_of_length h
  · intro h
    rw [h]
theorem part_len (ALL land : List (List α)) : ∀ (as : List α) (c : List (α × Bool)), (part ALL land as c).length ≤ 2 ^ as.length
  | [], c => by
    rw [part_eq]
    split
    · simp
    · split <;> simp
  | a :: r, c => by
    have h1 := part_len ALL land r (c ++ [(a, false)])
    have h2 := part_len ALL land r (c ++ [(a, true)])
    have : 1 ≤ 2 ^ r.length := Nat.one_le_two_pow
    rw [part_eq]
    split
    · exact Nat.zero_le _
    · split
      · simp only [List.length_singleton, List.length_cons, List.length_nil, Nat.pow_succ]
        omega
      · simp only [List.length_append, List.length_cons, Nat.pow_succ]
        omega
end Lnd
namespace K03
open L2.Lp Lnd
open PySem (PyData Str)
theorem plus_cond {c : Cond} {x : Nm} {b : Bool} (h : c.length ≤ 100) : gPlus (eCond true c) (.tuple [.tuple [eNm x, .bool b]]) = some (eCond true (c ++ [(x, b)])) := by
  unfold eCond sq
  rw [if_pos rfl, plus_tup (by simp; omega)]
  simp [ePair, sq, eBool]
theorem in_spot (neg b : Bool) (x : Spot) (xs : List Spot) : gInB neg (eSpot true x) (sq b (xs.map (eSpot true))) = some (.bool (neg != decide (x ∈ xs))) := in_enc (enc_spot true) neg b x xs
theorem plain_parts_F (a : Bool) (lt land : List Spot) (hn : lt.Nodup) : ∀ (rest : List Nm) (n : Nat) (pre : List Nm) (c : Cond), pre.length = c.length → rest.length < n → pre.length + rest.length ≤ 8 → Told lt rest c →
    F_plain_parts n [eSpot a (pre ++ rest), eLand true lt, eLand true land, eCond true c] = some (.list ((part lt land rest c).map (eCond true)), [])
  | rest, 0, pre, c, _, h, _, _ => by omega
  | rest, n + 1, pre, c, hl, h, h8, ht => by
    simp only [F_plain_parts, f_plain_parts, eLand]
    simp [fVar_ap, fC_ap, fTup_ap, fLst_ap, fOp_ap, fB_ap, fCall_ap, fAnd_ap, fOr_ap, fNot_ap, fIf_ap, fV_ap, fAndV_ap, fOrV_ap, fL_ap, fDisp_ap, fSeq_ap, fEnum_ap, fZip_ap, gSh_ap, gTupF_ap, fLc_ap, fYes_ap, fNil_ap, fThen_ap, fAsg_ap, fOwn_ap, fAsgT_ap, fRet_ap, fRetF_ap, fRetN_ap, fBk_ap, fCt_ap, fDrop_ap, fIfS_ap, fFor_ap, fCallD_ap, fG1_ap, fIsi_ap, fSl_ap, fSlF_ap, fD_ap, fOwnD_ap, fDc_ap, fT_ap, fOrT_ap, fAndT_ap, fOrF_ap, storeD_ap, fPut_ap, fCallO_ap, fCallL_ap, appD_ap, fApp_ap, fDg_ap, fNegI_ap, fPar_ap, fCallKw_ap, fChain_ap, fGet2_ap, fGet1_ap, fWalk_ap, fNotT_ap, fNotV_ap, fG1F_ap, fOpF_ap, fCallF_ap, runD_ap, runO_ap, Option.bind_assoc, loopF_nil, loopF_cons, loopLc_nil, loopLc_cons, loopW_succ, items_list, items_tuple, items_sq, tupD_list, tupD_tuple, tupD_sq, lenD_list, lenD_tuple, lenD_sq, intD_int, intD_bool, absD_int, truD_none, truD_bool, truD_int, truD_list, truD_tuple, truD_sq, gIx_int, asB_bool, g1_one, g1L_one, g2i_two, gInt_two, res_d, res_bor, fz_d, fz_bor, andThen_nx, andThen_rt, andThen_ro, andThen_bk, andThen_ct, again_nx, again_ct, again_bk, again_rt, again_ro, ended_rt, ended_nx, ended_ro, endedO_ro, fzs, eA, ress, outsOf, argsD, setOuts, gsCons, gsNil, argEnv, wipeE, restE, turnLc, maxD, minD, plus_int, sub_int, int_eq, int_ne, int_lt, int_le, int_gt, int_ge, oNone, oSome, pick, atI_0, atI_1, atI_2]
    apply lc_if_k (τ := fun s => keepsT s c) (φ := eSpot true)
    · intro s _ ht
      simp [fVar_ap, fC_ap, fTup_ap, fLst_ap, fOp_ap, fB_ap, fCall_ap, fAnd_ap, fOr_ap, fNot_ap, fIf_ap, fV_ap, fAndV_ap, fOrV_ap, fL_ap, fDisp_ap, fSeq_ap, fEnum_ap, fZip_ap, gSh_ap, gTupF_ap, fLc_ap, fYes_ap, fNil_ap, fThen_ap, fAsg_ap, fOwn_ap, fAsgT_ap, fRet_ap, fRetF_ap, fRetN_ap, fBk_ap, fCt_ap, fDrop_ap, fIfS_ap, fFor_ap, fCallD_ap, fG1_ap, fIsi_ap, fSl_ap, fSlF_ap, fD_ap, fOwnD_ap, fDc_ap, fT_ap, fOrT_ap, fAndT_ap, fOrF_ap, storeD_ap, fPut_ap, fCallO_ap, fCallL_ap, appD_ap, fApp_ap, fDg_ap, fNegI_ap, fPar_ap, fCallKw_ap, fChain_ap, fGet2_ap, fGet1_ap, fWalk_ap, fNotT_ap, fNotV_ap, fG1F_ap, fOpF_ap, fCallF_ap, runD_ap, runO_ap, Option.bind_assoc, loopF_nil, loopF_cons, loopLc_nil, loopLc_cons, loopW_succ, items_list, items_tuple, items_sq, tupD_list, tupD_tuple, tupD_sq, lenD_list, lenD_tuple, lenD_sq, intD_int, intD_bool, absD_int, truD_none, truD_bool, truD_int, truD_list, truD_tuple, truD_sq, gIx_int, asB_bool, g1_one, g1L_one, g2i_two, gInt_two, res_d, res_bor, fz_d, fz_bor, andThen_nx, andThen_rt, andThen_ro, andThen_bk, andThen_ct, again_nx, again_ct, again_bk, again_rt, again_ro, ended_rt, ended_nx, ended_ro, endedO_ro, fzs, eA, ress, outsOf, argsD, setOuts, gsCons, gsNil, argEnv, wipeE, restE, turnLc, maxD, minD, plus_int, sub_int, int_eq, int_ne, int_lt, int_le, int_gt, int_ge, oNone, oSome, pick, atI_0, atI_1, atI_2, keeps_F, ht]
    · intro s _ ht
      simp [fVar_ap, fC_ap, fTup_ap, fLst_ap, fOp_ap, fB_ap, fCall_ap, fAnd_ap, fOr_ap, fNot_ap, fIf_ap, fV_ap, fAndV_ap, fOrV_ap, fL_ap, fDisp_ap, fSeq_ap, fEnum_ap, fZip_ap, gSh_ap, gTupF_ap, fLc_ap, fYes_ap, fNil_ap, fThen_ap, fAsg_ap, fOwn_ap, fAsgT_ap, fRet_ap, fRetF_ap, fRetN_ap, fBk_ap, fCt_ap, fDrop_ap, fIfS_ap, fFor_ap, fCallD_ap, fG1_ap, fIsi_ap, fSl_ap, fSlF_ap, fD_ap, fOwnD_ap, fDc_ap, fT_ap, fOrT_ap, fAndT_ap, fOrF_ap, storeD_ap, fPut_ap, fCallO_ap, fCallL_ap, appD_ap, fApp_ap, fDg_ap, fNegI_ap, fPar_ap, fCallKw_ap, fChain_ap, fGet2_ap, fGet1_ap, fWalk_ap, fNotT_ap, fNotV_ap, fG1F_ap, fOpF_ap, fCallF_ap, runD_ap, runO_ap, Option.bind_assoc, loopF_nil, loopF_cons, loopLc_nil, loopLc_cons, loopW_succ, items_list, items_tuple, items_sq, tupD_list, tupD_tuple, tupD_sq, lenD_list, lenD_tuple, lenD_sq, intD_int, intD_bool, absD_int, truD_none, truD_bool, truD_int, truD_list, truD_tuple, truD_sq, gIx_int, asB_bool, g1_one, g1L_one, g2i_two, gInt_two, res_d, res_bor, fz_d, fz_bor, andThen_nx, andThen_rt, andThen_ro, andThen_bk, andThen_ct, again_nx, again_ct, again_bk, again_rt, again_ro, ended_rt, ended_nx, ended_ro, endedO_ro, fzs, eA, ress, outsOf, argsD, setOuts, gsCons, gsNil, argEnv, wipeE, restE, turnLc, maxD, minD, plus_int, sub_int, int_eq, int_ne, int_lt, int_le, int_gt, int_ge, oNone, oSome, pick, atI_0, atI_1, atI_2, keeps_F, ht]
    simp [fVar_ap, fC_ap, fTup_ap, fLst_ap, fOp_ap, fB_ap, fCall_ap, fAnd_ap, fOr_ap, fNot_ap, fIf_ap, fV_ap, fAndV_ap, fOrV_ap, fL_ap, fDisp_ap, fSeq_ap, fEnum_ap, fZip_ap, gSh_ap, gTupF_ap, fLc_ap, fYes_ap, fNil_ap, fThen_ap, fAsg_ap, fOwn_ap, fAsgT_ap, fRet_ap, fRetF_ap, fRetN_ap, fBk_ap, fCt_ap, fDrop_ap, fIfS_ap, fFor_ap, fCallD_ap, fG1_ap, fIsi_ap, fSl_ap, fSlF_ap, fD_ap, fOwnD_ap, fDc_ap, fT_ap, fOrT_ap, fAndT_ap, fOrF_ap, storeD_ap, fPut_ap, fCallO_ap, fCallL_ap, appD_ap, fApp_ap, fDg_ap, fNegI_ap, fPar_ap, fCallKw_ap, fChain_ap, fGet2_ap, fGet1_ap, fWalk_ap, fNotT_ap, fNotV_ap, fG1F_ap, fOpF_ap, fCallF_ap, runD_ap, runO_ap, Option.bind_assoc, loopF_nil, loopF_cons, loopLc_nil, loopLc_cons, loopW_succ, items_list, items_tuple, items_sq, tupD_list, tupD_tuple, tupD_sq, lenD_list, lenD_tuple, lenD_sq, intD_int, intD_bool, absD_int, truD_none, truD_bool, truD_int, truD_list, truD_tuple, truD_sq, gIx_int, asB_bool, g1_one, g1L_one, g2i_two, gInt_two, res_d, res_bor, fz_d, fz_bor, andThen_nx, andThen_rt, andThen_ro, andThen_bk, andThen_ct, again_nx, again_ct, again_bk, again_rt, again_ro, ended_rt, ended_nx, ended_ro, endedO_ro, fzs, eA, ress, outsOf, argsD, setOuts, gsCons, gsNil, argEnv, wipeE, restE, turnLc, maxD, minD, plus_int, sub_int, int_eq, int_ne, int_lt, int_le, int_gt, int_ge, oNone, oSome, pick, atI_0, atI_1, atI_2]
    apply lc_if_k (τ := fun s => decide (s ∈ land)) (φ := eSpot true)
    · intro s _ ht
      simp at ht
      simp [fVar_ap, fC_ap, fTup_ap, fLst_ap, fOp_ap, fB_ap, fCall_ap, fAnd_ap, fOr_ap, fNot_ap, fIf_ap, fV_ap, fAndV_ap, fOrV_ap, fL_ap, fDisp_ap, fSeq_ap, fEnum_ap, fZip_ap, gSh_ap, gTupF_ap, fLc_ap, fYes_ap, fNil_ap, fThen_ap, fAsg_ap, fOwn_ap, fAsgT_ap, fRet_ap, fRetF_ap, fRetN_ap, fBk_ap, fCt_ap, fDrop_ap, fIfS_ap, fFor_ap, fCallD_ap, fG1_ap, fIsi_ap, fSl_ap, fSlF_ap, fD_ap, fOwnD_ap, fDc_ap, fT_ap, fOrT_ap, fAndT_ap, fOrF_ap, storeD_ap, fPut_ap, fCallO_ap, fCallL_ap, appD_ap, fApp_ap, fDg_ap, fNegI_ap, fPar_ap, fCallKw_ap, fChain_ap, fGet2_ap, fGet1_ap, fWalk_ap, fNotT_ap, fNotV_ap, fG1F_ap, fOpF_ap, fCallF_ap, runD_ap, runO_ap, Option.bind_assoc, loopF_nil, loopF_cons, loopLc_nil, loopLc_cons, loopW_succ, items_list, items_tuple, items_sq, tupD_list, tupD_tuple, tupD_sq, lenD_list, lenD_tuple, lenD_sq, intD_int, intD_bool, absD_int, truD_none, truD_bool, truD_int, truD_list, truD_tuple, truD_sq, gIx_int, asB_bool, g1_one, g1L_one, g2i_two, gInt_two, res_d, res_bor, fz_d, fz_bor, andThen_nx, andThen_rt, andThen_ro, andThen_bk, andThen_ct, again_nx, again_ct, again_bk, again_rt, again_ro, ended_rt, ended_nx, ended_ro, endedO_ro, fzs, eA, ress, outsOf, argsD, setOuts, gsCons, gsNil, argEnv, wipeE, restE, turnLc, maxD, minD, plus_int, sub_int, int_eq, int_ne, int_lt, int_le, int_gt, int_ge, oNone, oSome, pick, atI_0, atI_1, atI_2, in_spot, ht]
    · intro s _ ht
      simp at ht
      simp [fVar_ap, fC_ap, fTup_ap, fLst_ap, fOp_ap, fB_ap, fCall_ap, fAnd_ap, fOr_ap, fNot_ap, fIf_ap, fV_ap, fAndV_ap, fOrV_ap, fL_ap, fDisp_ap, fSeq_ap, fEnum_ap, fZip_ap, gSh_ap, gTupF_ap, fLc_ap, fYes_ap, fNil_ap, fThen_ap, fAsg_ap, fOwn_ap, fAsgT_ap, fRet_ap, fRetF_ap, fRetN_ap, fBk_ap, fCt_ap, fDrop_ap, fIfS_ap, fFor_ap, fCallD_ap, fG1_ap, fIsi_ap, fSl_ap, fSlF_ap, fD_ap, fOwnD_ap, fDc_ap, fT_ap, fOrT_ap, fAndT_ap, fOrF_ap, storeD_ap, fPut_ap, fCallO_ap, fCallL_ap, appD_ap, fApp_ap, fDg_ap, fNegI_ap, fPar_ap, fCallKw_ap, fChain_ap, fGet2_ap, fGet1_ap, fWalk_ap, fNotT_ap, fNotV_ap, fG1F_ap, fOpF_ap, fCallF_ap, runD_ap, runO_ap, Option.bind_assoc, loopF_nil, loopF_cons, loopLc_nil, loopLc_cons, loopW_succ, items_list, items_tuple, items_sq, tupD_list, tupD_tuple, tupD_sq, lenD_list, lenD_tuple, lenD_sq, intD_int, intD_bool, absD_int, truD_none, truD_bool, truD_int, truD_list, truD_tuple, truD_sq, gIx_int, asB_bool, g1_one, g1L_one, g2i_two, gInt_two, res_d, res_bor, fz_d, fz_bor, andThen_nx, andThen_rt, andThen_ro, andThen_bk, andThen_ct, again_nx, again_ct, again_bk, again_rt, again_ro, ended_rt, ended_nx, ended_ro, endedO_ro, fzs, eA, ress, outsOf, argsD, setOuts, gsCons, gsNil, argEnv, wipeE, restE, turnLc, maxD, minD, plus_int, sub_int, int_eq, int_ne, int_lt, int_le, int_gt, int_ge, oNone, oSome, pick, atI_0, atI_1, atI_2, in_spot, ht]
    have e := part_eq lt land rest c
    generalize hk : lt.filter (fun s => keepsT s c) = kept at e ⊢
    generalize hi : kept.filter (fun s => decide (s ∈ land)) = inner at e ⊢
    by_cases h1 : inner = []
    · rw [if_pos h1] at e
      simp [fVar_ap, fC_ap, fTup_ap, fLst_ap, fOp_ap, fB_ap, fCall_ap, fAnd_ap, fOr_ap, fNot_ap, fIf_ap, fV_ap, fAndV_ap, fOrV_ap, fL_ap, fDisp_ap, fSeq_ap, fEnum_ap, fZip_ap, gSh_ap, gTupF_ap, fLc_ap, fYes_ap, fNil_ap, fThen_ap, fAsg_ap, fOwn_ap, fAsgT_ap, fRet_ap, fRetF_ap, fRetN_ap, fBk_ap, fCt_ap, fDrop_ap, fIfS_ap, fFor_ap, fCallD_ap, fG1_ap, fIsi_ap, fSl_ap, fSlF_ap, fD_ap, fOwnD_ap, fDc_ap, fT_ap, fOrT_ap, fAndT_ap, fOrF_ap, storeD_ap, fPut_ap, fCallO_ap, fCallL_ap, appD_ap, fApp_ap, fDg_ap, fNegI_ap, fPar_ap, fCallKw_ap, fChain_ap, fGet2_ap, fGet1_ap, fWalk_ap, fNotT_ap, fNotV_ap, fG1F_ap, fOpF_ap, fCallF_ap, runD_ap, runO_ap, Option.bind_assoc, loopF_nil, loopF_cons, loopLc_nil, loopLc_cons, loopW_succ, items_list, items_tuple, items_sq, tupD_list, tupD_tuple, tupD_sq, lenD_list, lenD_tuple, lenD_sq, intD_int, intD_bool, absD_int, truD_none, truD_bool, truD_int, truD_list, truD_tuple, truD_sq, gIx_int, asB_bool, g1_one, g1L_one, g2i_two, gInt_two, res_d, res_bor, fz_d, fz_bor, andThen_nx, andThen_rt, andThen_ro, andThen_bk, andThen_ct, again_nx, again_ct, again_bk, again_rt, again_ro, ended_rt, ended_nx, ended_ro, endedO_ro, fzs, eA, ress, outsOf, argsD, setOuts, gsCons, gsNil, argEnv, wipeE, restE, turnLc, maxD, minD, plus_int, sub_int, int_eq, int_ne, int_lt, int_le, int_gt, int_ge, oNone, oSome, pick, atI_0, atI_1, atI_2, h1, e]
    · rw [if_neg h1] at e
      have l : inner.length = kept.length ↔ inner = kept := by rw [← hi]; exact filter_len _ _
      by_cases h2 : inner = kept
      · rw [if_pos h2] at e
        have h3 : kept ≠ [] := h2 ▸ h1
        simp [fVar_ap, fC_ap, fTup_ap, fLst_ap, fOp_ap, fB_ap, fCall_ap, fAnd_ap, fOr_ap, fNot_ap, fIf_ap, fV_ap, fAndV_ap, fOrV_ap, fL_ap, fDisp_ap, fSeq_ap, fEnum_ap, fZip_ap, gSh_ap, gTupF_ap, fLc_ap, fYes_ap, fNil_ap, fThen_ap, fAsg_ap, fOwn_ap, fAsgT_ap, fRet_ap, fRetF_ap, fRetN_ap, fBk_ap, fCt_ap, fDrop_ap, fIfS_ap, fFor_ap, fCallD_ap, fG1_ap, fIsi_ap, fSl_ap, fSlF_ap, fD_ap, fOwnD_ap, fDc_ap, fT_ap, fOrT_ap, fAndT_ap, fOrF_ap, storeD_ap, fPut_ap, fCallO_ap, fCallL_ap, appD_ap, fApp_ap, fDg_ap, fNegI_ap, fPar_ap, fCallKw_ap, fChain_ap, fGet2_ap, fGet1_ap, fWalk_ap, fNotT_ap, fNotV_ap, fG1F_ap, fOpF_ap, fCallF_ap, runD_ap, runO_ap, Option.bind_assoc, loopF_nil, loopF_cons, loopLc_nil, loopLc_cons, loopW_succ, items_list, items_tuple, items_sq, tupD_list, tupD_tuple, tupD_sq, lenD_list, lenD_tuple, lenD_sq, intD_int, intD_bool, absD_int, truD_none, truD_bool, truD_int, truD_list, truD_tuple, truD_sq, gIx_int, asB_bool, g1_one, g1L_one, g2i_two, gInt_two, res_d, res_bor, fz_d, fz_bor, andThen_nx, andThen_rt, andThen_ro, andThen_bk, andThen_ct, again_nx, again_ct, again_bk, again_rt, again_ro, ended_rt, ended_nx, ended_ro, endedO_ro, fzs, eA, ress, outsOf, argsD, setOuts, gsCons, gsNil, argEnv, wipeE, restE, turnLc, maxD, minD, plus_int, sub_int, int_eq, int_ne, int_lt, int_le, int_gt, int_ge, oNone, oSome, pick, atI_0, atI_1, atI_2, h2, h3, e]
      · rw [if_neg h2] at e
        have h4 : ¬ inner.length = kept.length := fun z => h2 (l.mp z)
        have h5 : ¬ (inner.length : Int) = kept.length := by omega
        match rest, ht with
        | [], ht =>
          exact absurd (end_one hn ht (by rw [hk, hi]; exact h1)) (by rw [hk, hi]; exact h2)
        | x :: r, ht =>
          simp only [List.length_cons] at h h8
          have i1 := plain_parts_F a lt land hn r n (pre ++ [x]) (c ++ [(x, false)]) (by simp [hl]) (by omega) (by simp; omega) (ht.next false)
          have i2 := plain_parts_F a lt land hn r n (pre ++ [x]) (c ++ [(x, true)]) (by simp [hl]) (by omega) (by simp; omega) (ht.next true)
          simp only [List.append_assoc, List.cons_append, List.nil_append, eLand] at i1 i2
          have ix : L2.atI ((pre ++ x :: r).map eNm) (c.length : Int) = some (eNm x) := by
            rw [atI_map eNm _ c.length (by simp; omega)]
            simp [← hl]
          have cl : lenD (eCond true c) = some (.int c.length) := by simp [eCond, lenD_sq]
          have si : items (eSpot a (pre ++ x :: r)) = some ((pre ++ x :: r).map eNm) := by simp [eSpot]
          simp [fVar_ap, fC_ap, fTup_ap, fLst_ap, fOp_ap, fB_ap, fCall_ap, fAnd_ap, fOr_ap, fNot_ap, fIf_ap, fV_ap, fAndV_ap, fOrV_ap, fL_ap, fDisp_ap, fSeq_ap, fEnum_ap, fZip_ap, gSh_ap, gTupF_ap, fLc_ap, fYes_ap, fNil_ap, fThen_ap, fAsg_ap, fOwn_ap, fAsgT_ap, fRet_ap, fRetF_ap, fRetN_ap, fBk_ap, fCt_ap, fDrop_ap, fIfS_ap, fFor_ap, fCallD_ap, fG1_ap, fIsi_ap, fSl_ap, fSlF_ap, fD_ap, fOwnD_ap, fDc_ap, fT_ap, fOrT_ap, fAndT_ap, fOrF_ap, storeD_ap, fPut_ap, fCallO_ap, fCallL_ap, appD_ap, fApp_ap, fDg_ap, fNegI_ap, fPar_ap, fCallKw_ap, fChain_ap, fGet2_ap, fGet1_ap, fWalk_ap, fNotT_ap, fNotV_ap, fG1F_ap, fOpF_ap, fCallF_ap, runD_ap, runO_ap, Option.bind_assoc, loopF_nil, loopF_cons, loopLc_nil, loopLc_cons, loopW_succ, items_list, items_tuple, items_sq, tupD_list, tupD_tuple, tupD_sq, lenD_list, lenD_tuple, lenD_sq, intD_int, intD_bool, absD_int, truD_none, truD_bool, truD_int, truD_list, truD_tuple, truD_sq, gIx_int, asB_bool, g1_one, g1L_one, g2i_two, gInt_two, res_d, res_bor, fz_d, fz_bor, andThen_nx, andThen_rt, andThen_ro, andThen_bk, andThen_ct, again_nx, again_ct, again_bk, again_rt, again_ro, ended_rt, ended_nx, ended_ro, endedO_ro, fzs, eA, ress, outsOf, argsD, setOuts, gsCons, gsNil, argEnv, wipeE, restE, turnLc, maxD, minD, plus_int, sub_int, int_eq, int_ne, int_lt, int_le, int_gt, int_ge, oNone, oSome, pick, atI_0, atI_1, atI_2, h1, h5, cl, -List.map_append, si, ix]
          rw [plus_cond (by omega)]
          simp [fVar_ap, fC_ap, fTup_ap, fLst_ap, fOp_ap, fB_ap, fCall_ap, fAnd_ap, fOr_ap, fNot_ap, fIf_ap, fV_ap, fAndV_ap, fOrV_ap, fL_ap, fDisp_ap, fSeq_ap, fEnum_ap, fZip_ap, gSh_ap, gTupF_ap, fLc_ap, fYes_ap, fNil_ap, fThen_ap, fAsg_ap, fOwn_ap, fAsgT_ap, fRet_ap, fRetF_ap, fRetN_ap, fBk_ap, fCt_ap, fDrop_ap, fIfS_ap, fFor_ap, fCallD_ap, fG1_ap, fIsi_ap, fSl_ap, fSlF_ap, fD_ap, fOwnD_ap, fDc_ap, fT_ap, fOrT_ap, fAndT_ap, fOrF_ap, storeD_ap, fPut_ap, fCallO_ap, fCallL_ap, appD_ap, fApp_ap, fDg_ap, fNegI_ap, fPar_ap, fCallKw_ap, fChain_ap, fGet2_ap, fGet1_ap, fWalk_ap, fNotT_ap, fNotV_ap, fG1F_ap, fOpF_ap, fCallF_ap, runD_ap, runO_ap, Option.bind_assoc, loopF_nil, loopF_cons, loopLc_nil, loopLc_cons, loopW_succ, items_list, items_tuple, items_sq, tupD_list, tupD_tuple, tupD_sq, lenD_list, lenD_tuple, lenD_sq, intD_int, intD_bool, absD_int, truD_none, truD_bool, truD_int, truD_list, truD_tuple, truD_sq, gIx_int, asB_bool, g1_one, g1L_one, g2i_two, gInt_two, res_d, res_bor, fz_d, fz_bor, andThen_nx, andThen_rt, andThen_ro, andThen_bk, andThen_ct, again_nx, again_ct, again_bk, again_rt, again_ro, ended_rt, ended_nx, ended_ro, endedO_ro, fzs, eA, ress, outsOf, argsD, setOuts, gsCons, gsNil, argEnv, wipeE, restE, turnLc, maxD, minD, plus_int, sub_int, int_eq, int_ne, int_lt, int_le, int_gt, int_ge, oNone, oSome, pick, atI_0, atI_1, atI_2, i1, -List.map_append]
          rw [plus_cond (by omega)]
          simp [fVar_ap, fC_ap, fTup_ap, fLst_ap, fOp_ap, fB_ap, fCall_ap, fAnd_ap, fOr_ap, fNot_ap, fIf_ap, fV_ap, fAndV_ap, fOrV_ap, fL_ap, fDisp_ap, fSeq_ap, fEnum_ap, fZip_ap, gSh_ap, gTupF_ap, fLc_ap, fYes_ap, fNil_ap, fThen_ap, fAsg_ap, fOwn_ap, fAsgT_ap, fRet_ap, fRetF_ap, fRetN_ap, fBk_ap, fCt_ap, fDrop_ap, fIfS_ap, fFor_ap, fCallD_ap, fG1_ap, fIsi_ap, fSl_ap, fSlF_ap, fD_ap, fOwnD_ap, fDc_ap, fT_ap, fOrT_ap, fAndT_ap, fOrF_ap, storeD_ap, fPut_ap, fCallO_ap, fCallL_ap, appD_ap, fApp_ap, fDg_ap, fNegI_ap, fPar_ap, fCallKw_ap, fChain_ap, fGet2_ap, fGet1_ap, fWalk_ap, fNotT_ap, fNotV_ap, fG1F_ap, fOpF_ap, fCallF_ap, runD_ap, runO_ap, Option.bind_assoc, loopF_nil, loopF_cons, loopLc_nil, loopLc_cons, loopW_succ, items_list, items_tuple, items_sq, tupD_list, tupD_tuple, tupD_sq, lenD_list, lenD_tuple, lenD_sq, intD_int, intD_bool, absD_int, truD_none, truD_bool, truD_int, truD_list, truD_tuple, truD_sq, gIx_int, asB_bool, g1_one, g1L_one, g2i_two, gInt_two, res_d, res_bor, fz_d, fz_bor, andThen_nx, andThen_rt, andThen_ro, andThen_bk, andThen_ct, again_nx, again_ct, again_bk, again_rt, again_ro, ended_rt, ended_nx, ended_ro, endedO_ro, fzs, eA, ress, outsOf, argsD, setOuts, gsCons, gsNil, argEnv, wipeE, restE, turnLc, maxD, minD, plus_int, sub_int, int_eq, int_ne, int_lt, int_le, int_gt, int_ge, oNone, oSome, pick, atI_0, atI_1, atI_2, i2, -List.map_append]
          have p1 := part_len lt land r (c ++ [(x, false)])
          have p2 := part_len lt land r (c ++ [(x, true)])
          have p3 := pow_le (n := r.length) (by omega)
          rw [plus_list (by simp; omega)]
          simp [fVar_ap, fC_ap, fTup_ap, fLst_ap, fOp_ap, fB_ap, fCall_ap, fAnd_ap, fOr_ap, fNot_ap, fIf_ap, fV_ap, fAndV_ap, fOrV_ap, fL_ap, fDisp_ap, fSeq_ap, fEnum_ap, fZip_ap, gSh_ap, gTupF_ap, fLc_ap, fYes_ap, fNil_ap, fThen_ap, fAsg_ap, fOwn_ap, fAsgT_ap, fRet_ap, fRetF_ap, fRetN_ap, fBk_ap, fCt_ap, fDrop_ap, fIfS_ap, fFor_ap, fCallD_ap, fG1_ap, fIsi_ap, fSl_ap, fSlF_ap, fD_ap, fOwnD_ap, fDc_ap, fT_ap, fOrT_ap, fAndT_ap, fOrF_ap, storeD_ap, fPut_ap, fCallO_ap, fCallL_ap, appD_ap, fApp_ap, fDg_ap, fNegI_ap, fPar_ap, fCallKw_ap, fChain_ap, fGet2_ap, fGet1_ap, fWalk_ap, fNotT_ap, fNotV_ap, fG1F_ap, fOpF_ap, fCallF_ap, runD_ap, runO_ap, Option.bind_assoc, loopF_nil, loopF_cons, loopLc_nil, loopLc_cons, loopW_succ, items_list, items_tuple, items_sq, tupD_list, tupD_tuple, tupD_sq, lenD_list, lenD_tuple, lenD_sq, intD_int, intD_bool, absD_int, truD_none, truD_bool, truD_int, truD_list, truD_tuple, truD_sq, gIx_int, asB_bool, g1_one, g1L_one, g2i_two, gInt_two, res_d, res_bor, fz_d, fz_bor, andThen_nx, andThen_rt, andThen_ro, andThen_bk, andThen_ct, again_nx, again_ct, again_bk, again_rt, again_ro, ended_rt, ended_nx, ended_ro, endedO_ro, fzs, eA, ress, outsOf, argsD, setOuts, gsCons, gsNil, argEnv, wipeE, restE, turnLc, maxD, minD, plus_int, sub_int, int_eq, int_ne, int_lt, int_le, int_gt, int_ge, oNone, oSome, pick, atI_0, atI_1, atI_2, e]
theorem slice_tail (b : Bool) (d : PyData) (ds : List PyData) : sliceD (sq b (d :: ds)) (some 1) none = some (sq b ds) := by
  have : cutD (d :: ds) (some 1) none = ds := by
    unfold cutD HT.sIx
    simp
  cases b <;> simp [sq, sliceD, this]
theorem eq_lists {X : Type} [DecidableEq X] {enc : X → PyData} {t : Ty} (h : IsEnc enc t) (k : t.dep + 1 ≤ 40) (xs ys : List X) : gEq (.list (xs.map enc)) (.list (ys.map enc)) = some (.bool (decide (xs = ys))) := eq_enc (h.seq false k) xs ys
theorem law_parted_F (lt land : List Spot) (hn : lt.Nodup) : ∀ (rest : List Nm) (n : Nat) (c : Cond), rest.length < n → c.length + rest.length ≤ 8 → Told lt rest c →
    F__law_parted n [eSpot true rest, .list ((lt.filter fun s => keepsT s c).map (eSpot true)), eLand true land, eCond true c] = some (.list ((part lt land rest c).map (eCond true)), [])
  | rest, 0, c, h, _, _ => by omega
  | rest, n + 1, c, h, h8, ht => by
    simp only [F__law_parted, f__law_parted, eLand]
    simp [fVar_ap, fC_ap, fTup_ap, fLst_ap, fOp_ap, fB_ap, fCall_ap, fAnd_ap, fOr_ap, fNot_ap, fIf_ap, fV_ap, fAndV_ap, fOrV_ap, fL_ap, fDisp_ap, fSeq_ap, fEnum_ap, fZip_ap, gSh_ap, gTupF_ap, fLc_ap, fYes_ap, fNil_ap, fThen_ap, fAsg_ap, fOwn_ap, fAsgT_ap, fRet_ap, fRetF_ap, fRetN_ap, fBk_ap, fCt_ap, fDrop_ap, fIfS_ap, fFor_ap, fCallD_ap, fG1_ap, fIsi_ap, fSl_ap, fSlF_ap, fD_ap, fOwnD_ap, fDc_ap, fT_ap, fOrT_ap, fAndT_ap, fOrF_ap, storeD_ap, fPut_ap, fCallO_ap, fCallL_ap, appD_ap, fApp_ap, fDg_ap, fNegI_ap, fPar_ap, fCallKw_ap, fChain_ap, fGet2_ap, fGet1_ap, fWalk_ap, fNotT_ap, fNotV_ap, fG1F_ap, fOpF_ap, fCallF_ap, runD_ap, runO_ap, Option.bind_assoc, loopF_nil, loopF_cons, loopLc_nil, loopLc_cons, loopW_succ, items_list, items_tuple, items_sq, tupD_list, tupD_tuple, tupD_sq, lenD_list, lenD_tuple, lenD_sq, intD_int, intD_bool, absD_int, truD_none, truD_bool, truD_int, truD_list, truD_tuple, truD_sq, gIx_int, asB_bool, g1_one, g1L_one, g2i_two, gInt_two, res_d, res_bor, fz_d, fz_bor, andThen_nx, andThen_rt, andThen_ro, andThen_bk, andThen_ct, again_nx, again_ct, again_bk, again_rt, again_ro, ended_rt, ended_nx, ended_ro, endedO_ro, fzs, eA, ress, outsOf, argsD, setOuts, gsCons, gsNil, argEnv, wipeE, restE, turnLc, maxD, minD, plus_int, sub_int, int_eq, int_ne, int_lt, int_le, int_gt, int_ge, oNone, oSome, pick, atI_0, atI_1, atI_2]
    apply lc_if_k (τ := fun s => decide (s ∈ land)) (φ := eSpot true)
    · intro s _ ht
      simp at ht
      simp [fVar_ap, fC_ap, fTup_ap, fLst_ap, fOp_ap, fB_ap, fCall_ap, fAnd_ap, fOr_ap, fNot_ap, fIf_ap, fV_ap, fAndV_ap, fOrV_ap, fL_ap, fDisp_ap, fSeq_ap, fEnum_ap, fZip_ap, gSh_ap, gTupF_ap, fLc_ap, fYes_ap, fNil_ap, fThen_ap, fAsg_ap, fOwn_ap, fAsgT_ap, fRet_ap, fRetF_ap, fRetN_ap, fBk_ap, fCt_ap, fDrop_ap, fIfS_ap, fFor_ap, fCallD_ap, fG1_ap, fIsi_ap, fSl_ap, fSlF_ap, fD_ap, fOwnD_ap, fDc_ap, fT_ap, fOrT_ap, fAndT_ap, fOrF_ap, storeD_ap, fPut_ap, fCallO_ap, fCallL_ap, appD_ap, fApp_ap, fDg_ap, fNegI_ap, fPar_ap, fCallKw_ap, fChain_ap, fGet2_ap, fGet1_ap, fWalk_ap, fNotT_ap, fNotV_ap, fG1F_ap, fOpF_ap, fCallF_ap, runD_ap, runO_ap, Option.bind_assoc, loopF_nil, loopF_cons, loopLc_nil, loopLc_cons, loopW_succ, items_list, items_tuple, items_sq, tupD_list, tupD_tuple, tupD_sq, lenD_list, lenD_tuple, lenD_sq, intD_int, intD_bool, absD_int, truD_none, truD_bool, truD_int, truD_list, truD_tuple, truD_sq, gIx_int, asB_bool, g1_one, g1L_one, g2i_two, gInt_two, res_d, res_bor, fz_d, fz_bor, andThen_nx, andThen_rt, andThen_ro, andThen_bk, andThen_ct, again_nx, again_ct, again_bk, again_rt, again_ro, ended_rt, ended_nx, ended_ro, endedO_ro, fzs, eA, ress, outsOf, argsD, setOuts, gsCons, gsNil, argEnv, wipeE, restE, turnLc, maxD, minD, plus_int, sub_int, int_eq, int_ne, int_lt, int_le, int_gt, int_ge, oNone, oSome, pick, atI_0, atI_1, atI_2, in_spot, ht]
    · intro s _ ht
      simp at ht
      simp [fVar_ap, fC_ap, fTup_ap, fLst_ap, fOp_ap, fB_ap, fCall_ap, fAnd_ap, fOr_ap, fNot_ap, fIf_ap, fV_ap, fAndV_ap, fOrV_ap, fL_ap, fDisp_ap, fSeq_ap, fEnum_ap, fZip_ap, gSh_ap, gTupF_ap, fLc_ap, fYes_ap, fNil_ap, fThen_ap, fAsg_ap, fOwn_ap, fAsgT_ap, fRet_ap, fRetF_ap, fRetN_ap, fBk_ap, fCt_ap, fDrop_ap, fIfS_ap, fFor_ap, fCallD_ap, fG1_ap, fIsi_ap, fSl_ap, fSlF_ap, fD_ap, fOwnD_ap, fDc_ap, fT_ap, fOrT_ap, fAndT_ap, fOrF_ap, storeD_ap, fPut_ap, fCallO_ap, fCallL_ap, appD_ap, fApp_ap, fDg_ap, fNegI_ap, fPar_ap, fCallKw_ap, fChain_ap, fGet2_ap, fGet1_ap, fWalk_ap, fNotT_ap, fNotV_ap, fG1F_ap, fOpF_ap, fCallF_ap, runD_ap, runO_ap, Option.bind_assoc, loopF_nil, loopF_cons, loopLc_nil, loopLc_cons, loopW_succ, items_list, items_tuple, items_sq, tupD_list, tupD_tuple, tupD_sq, lenD_list, lenD_tuple, lenD_sq, intD_int, intD_bool, absD_int, truD_none, truD_bool, truD_int, truD_list, truD_tuple, truD_sq, gIx_int, asB_bool, g1_one, g1L_one, g2i_two, gInt_two, res_d, res_bor, fz_d, fz_bor, andThen_nx, andThen_rt, andThen_ro, andThen_bk, andThen_ct, again_nx, again_ct, again_bk, again_rt, again_ro, ended_rt, ended_nx, ended_ro, endedO_ro, fzs, eA, ress, outsOf, argsD, setOuts, gsCons, gsNil, argEnv, wipeE, restE, turnLc, maxD, minD, plus_int, sub_int, int_eq, int_ne, int_lt, int_le, int_gt, int_ge, oNone, oSome, pick, atI_0, atI_1, atI_2, in_spot, ht]
    have e := part_eq lt land rest c
    generalize hk : lt.filter (fun s => keepsT s c) = kept at e ⊢
    generalize hi : kept.filter (fun s => decide (s ∈ land)) = inner at e ⊢
    have q1 := seq_nil_enc (enc_spot true) (by decide) inner
    have q2 := eq_lists (enc_spot true) (by decide) inner kept
    by_cases h1 : inner = []
    · rw [if_pos h1] at e
      rw [h1] at q1
      simp at q1
      simp [fVar_ap, fC_ap, fTup_ap, fLst_ap, fOp_ap, fB_ap, fCall_ap, fAnd_ap, fOr_ap, fNot_ap, fIf_ap, fV_ap, fAndV_ap, fOrV_ap, fL_ap, fDisp_ap, fSeq_ap, fEnum_ap, fZip_ap, gSh_ap, gTupF_ap, fLc_ap, fYes_ap, fNil_ap, fThen_ap, fAsg_ap, fOwn_ap, fAsgT_ap, fRet_ap, fRetF_ap, fRetN_ap, fBk_ap, fCt_ap, fDrop_ap, fIfS_ap, fFor_ap, fCallD_ap, fG1_ap, fIsi_ap, fSl_ap, fSlF_ap, fD_ap, fOwnD_ap, fDc_ap, fT_ap, fOrT_ap, fAndT_ap, fOrF_ap, storeD_ap, fPut_ap, fCallO_ap, fCallL_ap, appD_ap, fApp_ap, fDg_ap, fNegI_ap, fPar_ap, fCallKw_ap, fChain_ap, fGet2_ap, fGet1_ap, fWalk_ap, fNotT_ap, fNotV_ap, fG1F_ap, fOpF_ap, fCallF_ap, runD_ap, runO_ap, Option.bind_assoc, loopF_nil, loopF_cons, loopLc_nil, loopLc_cons, loopW_succ, items_list, items_tuple, items_sq, tupD_list, tupD_tuple, tupD_sq, lenD_list, lenD_tuple, lenD_sq, intD_int, intD_bool, absD_int, truD_none, truD_bool, truD_int, truD_list, truD_tuple, truD_sq, gIx_int, asB_bool, g1_one, g1L_one, g2i_two, gInt_two, res_d, res_bor, fz_d, fz_bor, andThen_nx, andThen_rt, andThen_ro, andThen_bk, andThen_ct, again_nx, again_ct, again_bk, again_rt, again_ro, ended_rt, ended_nx, ended_ro, endedO_ro, fzs, eA, ress, outsOf, argsD, setOuts, gsCons, gsNil, argEnv, wipeE, restE, turnLc, maxD, minD, plus_int, sub_int, int_eq, int_ne, int_lt, int_le, int_gt, int_ge, oNone, oSome, pick, atI_0, atI_1, atI_2, h1, e, q1]
    · rw [if_neg h1] at e
      by_cases h2 : inner = kept
      · rw [if_pos h2] at e
        rw [decide_eq_true h2] at q2
        rw [decide_eq_false h1] at q1
        simp [fVar_ap, fC_ap, fTup_ap, fLst_ap, fOp_ap, fB_ap, fCall_ap, fAnd_ap, fOr_ap, fNot_ap, fIf_ap, fV_ap, fAndV_ap, fOrV_ap, fL_ap, fDisp_ap, fSeq_ap, fEnum_ap, fZip_ap, gSh_ap, gTupF_ap, fLc_ap, fYes_ap, fNil_ap, fThen_ap, fAsg_ap, fOwn_ap, fAsgT_ap, fRet_ap, fRetF_ap, fRetN_ap, fBk_ap, fCt_ap, fDrop_ap, fIfS_ap, fFor_ap, fCallD_ap, fG1_ap, fIsi_ap, fSl_ap, fSlF_ap, fD_ap, fOwnD_ap, fDc_ap, fT_ap, fOrT_ap, fAndT_ap, fOrF_ap, storeD_ap, fPut_ap, fCallO_ap, fCallL_ap, appD_ap, fApp_ap, fDg_ap, fNegI_ap, fPar_ap, fCallKw_ap, fChain_ap, fGet2_ap, fGet1_ap, fWalk_ap, fNotT_ap, fNotV_ap, fG1F_ap, fOpF_ap, fCallF_ap, runD_ap, runO_ap, Option.bind_assoc, loopF_nil, loopF_cons, loopLc_nil, loopLc_cons, loopW_succ, items_list, items_tuple, items_sq, tupD_list, tupD_tuple, tupD_sq, lenD_list, lenD_tuple, lenD_sq, intD_int, intD_bool, absD_int, truD_none, truD_bool, truD_int, truD_list, truD_tuple, truD_sq, gIx_int, asB_bool, g1_one, g1L_one, g2i_two, gInt_two, res_d, res_bor, fz_d, fz_bor, andThen_nx, andThen_rt, andThen_ro, andThen_bk, andThen_ct, again_nx, again_ct, again_bk, again_rt, again_ro, ended_rt, ended_nx, ended_ro, endedO_ro, fzs, eA, ress, outsOf, argsD, setOuts, gsCons, gsNil, argEnv, wipeE, restE, turnLc, maxD, minD, plus_int, sub_int, int_eq, int_ne, int_lt, int_le, int_gt, int_ge, oNone, oSome, pick, atI_0, atI_1, atI_2, q1, q2, e]
      · rw [if_neg h2] at e
        match rest, ht with
        | [], ht =>
          exact absurd (end_one hn ht (by rw [hk, hi]; exact h1)) (by rw [hk, hi]; exact h2)
        | x :: r, ht =>
          simp only [List.length_cons] at h h8
          have i1 := law_parted_F lt land hn r n (c ++ [(x, false)]) (by omega) (by simp; omega) (ht.next false)
          have i2 := law_parted_F lt land hn r n (c ++ [(x, true)]) (by omega) (by simp; omega) (ht.next true)
          simp only [eLand] at i1 i2
          have n1 := kept_next lt c x false
          have n2 := kept_next lt c x true
          rw [hk] at n1 n2
          have p1 := part_len lt land r (c ++ [(x, false)])
          have p2 := part_len lt land r (c ++ [(x, true)])
          have p3 := pow_le (n := r.length) (by omega)
          have si : eSpot true (x :: r) = sq true (eNm x :: r.map eNm) := rfl
          simp [fVar_ap, fC_ap, fTup_ap, fLst_ap, fOp_ap, fB_ap, fCall_ap, fAnd_ap, fOr_ap, fNot_ap, fIf_ap, fV_ap, fAndV_ap, fOrV_ap, fL_ap, fDisp_ap, fSeq_ap, fEnum_ap, fZip_ap, gSh_ap, gTupF_ap, fLc_ap, fYes_ap, fNil_ap, fThen_ap, fAsg_ap, fOwn_ap, fAsgT_ap, fRet_ap, fRetF_ap, fRetN_ap, fBk_ap, fCt_ap, fDrop_ap, fIfS_ap, fFor_ap, fCallD_ap, fG1_ap, fIsi_ap, fSl_ap, fSlF_ap, fD_ap, fOwnD_ap, fDc_ap, fT_ap, fOrT_ap, fAndT_ap, fOrF_ap, storeD_ap, fPut_ap, fCallO_ap, fCallL_ap, appD_ap, fApp_ap, fDg_ap, fNegI_ap, fPar_ap, fCallKw_ap, fChain_ap, fGet2_ap, fGet1_ap, fWalk_ap, fNotT_ap, fNotV_ap, fG1F_ap, fOpF_ap, fCallF_ap, runD_ap, runO_ap, Option.bind_assoc, loopF_nil, loopF_cons, loopLc_nil, loopLc_cons, loopW_succ, items_list, items_tuple, items_sq, tupD_list, tupD_tuple, tupD_sq, lenD_list, lenD_tuple, lenD_sq, intD_int, intD_bool, absD_int, truD_none, truD_bool, truD_int, truD_list, truD_tuple, truD_sq, gIx_int, asB_bool, g1_one, g1L_one, g2i_two, gInt_two, res_d, res_bor, fz_d, fz_bor, andThen_nx, andThen_rt, andThen_ro, andThen_bk, andThen_ct, again_nx, again_ct, again_bk, again_rt, again_ro, ended_rt, ended_nx, ended_ro, endedO_ro, fzs, eA, ress, outsOf, argsD, setOuts, gsCons, gsNil, argEnv, wipeE, restE, turnLc, maxD, minD, plus_int, sub_int, int_eq, int_ne, int_lt, int_le, int_gt, int_ge, oNone, oSome, pick, atI_0, atI_1, atI_2, q1, q2, h1, h2, si]
          apply lc_if_k (τ := fun s => decide (x ∈ s) == false) (φ := eSpot true)
          · intro s _ ht
            simp at ht
            simp [fVar_ap, fC_ap, fTup_ap, fLst_ap, fOp_ap, fB_ap, fCall_ap, fAnd_ap, fOr_ap, fNot_ap, fIf_ap, fV_ap, fAndV_ap, fOrV_ap, fL_ap, fDisp_ap, fSeq_ap, fEnum_ap, fZip_ap, gSh_ap, gTupF_ap, fLc_ap, fYes_ap, fNil_ap, fThen_ap, fAsg_ap, fOwn_ap, fAsgT_ap, fRet_ap, fRetF_ap, fRetN_ap, fBk_ap, fCt_ap, fDrop_ap, fIfS_ap, fFor_ap, fCallD_ap, fG1_ap, fIsi_ap, fSl_ap, fSlF_ap, fD_ap, fOwnD_ap, fDc_ap, fT_ap, fOrT_ap, fAndT_ap, fOrF_ap, storeD_ap, fPut_ap, fCallO_ap, fCallL_ap, appD_ap, fApp_ap, fDg_ap, fNegI_ap, fPar_ap, fCallKw_ap, fChain_ap, fGet2_ap, fGet1_ap, fWalk_ap, fNotT_ap, fNotV_ap, fG1F_ap, fOpF_ap, fCallF_ap, runD_ap, runO_ap, Option.bind_assoc, loopF_nil, loopF_cons, loopLc_nil, loopLc_cons, loopW_succ, items_list, items_tuple, items_sq, tupD_list, tupD_tuple, tupD_sq, lenD_list, lenD_tuple, lenD_sq, intD_int, intD_bool, absD_int, truD_none, truD_bool, truD_int, truD_list, truD_tuple, truD_sq, gIx_int, asB_bool, g1_one, g1L_one, g2i_two, gInt_two, res_d, res_bor, fz_d, fz_bor, andThen_nx, andThen_rt, andThen_ro, andThen_bk, andThen_ct, again_nx, again_ct, again_bk, again_rt, again_ro, ended_rt, ended_nx, ended_ro, endedO_ro, fzs, eA, ress, outsOf, argsD, setOuts, gsCons, gsNil, argEnv, wipeE, restE, turnLc, maxD, minD, plus_int, sub_int, int_eq, int_ne, int_lt, int_le, int_gt, int_ge, oNone, oSome, pick, atI_0, atI_1, atI_2, in_nm, eq_bool, ht]
          · intro s _ ht
            simp at ht
            simp [fVar_ap, fC_ap, fTup_ap, fLst_ap, fOp_ap, fB_ap, fCall_ap, fAnd_ap, fOr_ap, fNot_ap, fIf_ap, fV_ap, fAndV_ap, fOrV_ap, fL_ap, fDisp_ap, fSeq_ap, fEnum_ap, fZip_ap, gSh_ap, gTupF_ap, fLc_ap, fYes_ap, fNil_ap, fThen_ap, fAsg_ap, fOwn_ap, fAsgT_ap, fRet_ap, fRetF_ap, fRetN_ap, fBk_ap, fCt_ap, fDrop_ap, fIfS_ap, fFor_ap, fCallD_ap, fG1_ap, fIsi_ap, fSl_ap, fSlF_ap, fD_ap, fOwnD_ap, fDc_ap, fT_ap, fOrT_ap, fAndT_ap, fOrF_ap, storeD_ap, fPut_ap, fCallO_ap, fCallL_ap, appD_ap, fApp_ap, fDg_ap, fNegI_ap, fPar_ap, fCallKw_ap, fChain_ap, fGet2_ap, fGet1_ap, fWalk_ap, fNotT_ap, fNotV_ap, fG1F_ap, fOpF_ap, fCallF_ap, runD_ap, runO_ap, Option.bind_assoc, loopF_nil, loopF_cons, loopLc_nil, loopLc_cons, loopW_succ, items_list, items_tuple, items_sq, tupD_list, tupD_tuple, tupD_sq, lenD_list, lenD_tuple, lenD_sq, intD_int, intD_bool, absD_int, truD_none, truD_bool, truD_int, truD_list, truD_tuple, truD_sq, gIx_int, asB_bool, g1_one, g1L_one, g2i_two, gInt_two, res_d, res_bor, fz_d, fz_bor, andThen_nx, andThen_rt, andThen_ro, andThen_bk, andThen_ct, again_nx, again_ct, again_bk, again_rt, again_ro, ended_rt, ended_nx, ended_ro, endedO_ro, fzs, eA, ress, outsOf, argsD, setOuts, gsCons, gsNil, argEnv, wipeE, restE, turnLc, maxD, minD, plus_int, sub_int, int_eq, int_ne, int_lt, int_le, int_gt, int_ge, oNone, oSome, pick, atI_0, atI_1, atI_2, in_nm, eq_bool, ht]
          rw [n1]
          simp [fVar_ap, fC_ap, fTup_ap, fLst_ap, fOp_ap, fB_ap, fCall_ap, fAnd_ap, fOr_ap, fNot_ap, fIf_ap, fV_ap, fAndV_ap, fOrV_ap, fL_ap, fDisp_ap, fSeq_ap, fEnum_ap, fZip_ap, gSh_ap, gTupF_ap, fLc_ap, fYes_ap, fNil_ap, fThen_ap, fAsg_ap, fOwn_ap, fAsgT_ap, fRet_ap, fRetF_ap, fRetN_ap, fBk_ap, fCt_ap, fDrop_ap, fIfS_ap, fFor_ap, fCallD_ap, fG1_ap, fIsi_ap, fSl_ap, fSlF_ap, fD_ap, fOwnD_ap, fDc_ap, fT_ap, fOrT_ap, fAndT_ap, fOrF_ap, storeD_ap, fPut_ap, fCallO_ap, fCallL_ap, appD_ap, fApp_ap, fDg_ap, fNegI_ap, fPar_ap, fCallKw_ap, fChain_ap, fGet2_ap, fGet1_ap, fWalk_ap, fNotT_ap, fNotV_ap, fG1F_ap, fOpF_ap, fCallF_ap, runD_ap, runO_ap, Option.bind_assoc, loopF_nil, loopF_cons, loopLc_nil, loopLc_cons, loopW_succ, items_list, items_tuple, items_sq, tupD_list, tupD_tuple, tupD_sq, lenD_list, lenD_tuple, lenD_sq, intD_int, intD_bool, absD_int, truD_none, truD_bool, truD_int, truD_list, truD_tuple, truD_sq, gIx_int, asB_bool, g1_one, g1L_one, g2i_two, gInt_two, res_d, res_bor, fz_d, fz_bor, andThen_nx, andThen_rt, andThen_ro, andThen_bk, andThen_ct, again_nx, again_ct, again_bk, again_rt, again_ro, ended_rt, ended_nx, ended_ro, endedO_ro, fzs, eA, ress, outsOf, argsD, setOuts, gsCons, gsNil, argEnv, wipeE, restE, turnLc, maxD, minD, plus_int, sub_int, int_eq, int_ne, int_lt, int_le, int_gt, int_ge, oNone, oSome, pick, atI_0, atI_1, atI_2, slice_tail]
          rw [plus_cond (by omega)]
          have s2 : sq true (r.map eNm) = eSpot true r := rfl
          simp [fVar_ap, fC_ap, fTup_ap, fLst_ap, fOp_ap, fB_ap, fCall_ap, fAnd_ap, fOr_ap, fNot_ap, fIf_ap, fV_ap, fAndV_ap, fOrV_ap, fL_ap, fDisp_ap, fSeq_ap, fEnum_ap, fZip_ap, gSh_ap, gTupF_ap, fLc_ap, fYes_ap, fNil_ap, fThen_ap, fAsg_ap, fOwn_ap, fAsgT_ap, fRet_ap, fRetF_ap, fRetN_ap, fBk_ap, fCt_ap, fDrop_ap, fIfS_ap, fFor_ap, fCallD_ap, fG1_ap, fIsi_ap, fSl_ap, fSlF_ap, fD_ap, fOwnD_ap, fDc_ap, fT_ap, fOrT_ap, fAndT_ap, fOrF_ap, storeD_ap, fPut_ap, fCallO_ap, fCallL_ap, appD_ap, fApp_ap, fDg_ap, fNegI_ap, fPar_ap, fCallKw_ap, fChain_ap, fGet2_ap, fGet1_ap, fWalk_ap, fNotT_ap, fNotV_ap, fG1F_ap, fOpF_ap, fCallF_ap, runD_ap, runO_ap, Option.bind_assoc, loopF_nil, loopF_cons, loopLc_nil, loopLc_cons, loopW_succ, items_list, items_tuple, items_sq, tupD_list, tupD_tuple, tupD_sq, lenD_list, lenD_tuple, lenD_sq, intD_int, intD_bool, absD_int, truD_none, truD_bool, truD_int, truD_list, truD_tuple, truD_sq, gIx_int, asB_bool, g1_one, g1L_one, g2i_two, gInt_two, res_d, res_bor, fz_d, fz_bor, andThen_nx, andThen_rt, andThen_ro, andThen_bk, andThen_ct, again_nx, again_ct, again_bk, again_rt, again_ro, ended_rt, ended_nx, ended_ro, endedO_ro, fzs, eA, ress, outsOf, argsD, setOuts, gsCons, gsNil, argEnv, wipeE, restE, turnLc, maxD, minD, plus_int, sub_int, int_eq, int_ne, int_lt, int_le, int_gt, int_ge, oNone, oSome, pick, atI_0, atI_1, atI_2, s2, i1]
          rw [plus_list (by simp; omega)]
          simp [fVar_ap, fC_ap, fTup_ap, fLst_ap, fOp_ap, fB_ap, fCall_ap, fAnd_ap, fOr_ap, fNot_ap, fIf_ap, fV_ap, fAndV_ap, fOrV_ap, fL_ap, fDisp_ap, fSeq_ap, fEnum_ap, fZip_ap, gSh_ap, gTupF_ap, fLc_ap, fYes_ap, fNil_ap, fThen_ap, fAsg_ap, fOwn_ap, fAsgT_ap, fRet_ap, fRetF_ap, fRetN_ap, fBk_ap, fCt_ap, fDrop_ap, fIfS_ap, fFor_ap, fCallD_ap, fG1_ap, fIsi_ap, fSl_ap, fSlF_ap, fD_ap, fOwnD_ap, fDc_ap, fT_ap, fOrT_ap, fAndT_ap, fOrF_ap, storeD_ap, fPut_ap, fCallO_ap, fCallL_ap, appD_ap, fApp_ap, fDg_ap, fNegI_ap, fPar_ap, fCallKw_ap, fChain_ap, fGet2_ap, fGet1_ap, fWalk_ap, fNotT_ap, fNotV_ap, fG1F_ap, fOpF_ap, fCallF_ap, runD_ap, runO_ap, Option.bind_assoc, loopF_nil, loopF_cons, loopLc_nil, loopLc_cons, loopW_succ, items_list, items_tuple, items_sq, tupD_list, tupD_tuple, tupD_sq, lenD_list, lenD_tuple, lenD_sq, intD_int, intD_bool, absD_int, truD_none, truD_bool, truD_int, truD_list, truD_tuple, truD_sq, gIx_int, asB_bool, g1_one, g1L_one, g2i_two, gInt_two, res_d, res_bor, fz_d, fz_bor, andThen_nx, andThen_rt, andThen_ro, andThen_bk, andThen_ct, again_nx, again_ct, again_bk, again_rt, again_ro, ended_rt, ended_nx, ended_ro, endedO_ro, fzs, eA, ress, outsOf, argsD, setOuts, gsCons, gsNil, argEnv, wipeE, restE, turnLc, maxD, minD, plus_int, sub_int, int_eq, int_ne, int_lt, int_le, int_gt, int_ge, oNone, oSome, pick, atI_0, atI_1, atI_2]
          apply lc_if_k (τ := fun s => decide (x ∈ s) == true) (φ := eSpot true)
          · intro s _ ht
            simp at ht
            simp [fVar_ap, fC_ap, fTup_ap, fLst_ap, fOp_ap, fB_ap, fCall_ap, fAnd_ap, fOr_ap, fNot_ap, fIf_ap, fV_ap, fAndV_ap, fOrV_ap, fL_ap, fDisp_ap, fSeq_ap, fEnum_ap, fZip_ap, gSh_ap, gTupF_ap, fLc_ap, fYes_ap, fNil_ap, fThen_ap, fAsg_ap, fOwn_ap, fAsgT_ap, fRet_ap, fRetF_ap, fRetN_ap, fBk_ap, fCt_ap, fDrop_ap, fIfS_ap, fFor_ap, fCallD_ap, fG1_ap, fIsi_ap, fSl_ap, fSlF_ap, fD_ap, fOwnD_ap, fDc_ap, fT_ap, fOrT_ap, fAndT_ap, fOrF_ap, storeD_ap, fPut_ap, fCallO_ap, fCallL_ap, appD_ap, fApp_ap, fDg_ap, fNegI_ap, fPar_ap, fCallKw_ap, fChain_ap, fGet2_ap, fGet1_ap, fWalk_ap, fNotT_ap, fNotV_ap, fG1F_ap, fOpF_ap, fCallF_ap, runD_ap, runO_ap, Option.bind_assoc, loopF_nil, loopF_cons, loopLc_nil, loopLc_cons, loopW_succ, items_list, items_tuple, items_sq, tupD_list, tupD_tuple, tupD_sq, lenD_list, lenD_tuple, lenD_sq, intD_int, intD_bool, absD_int, truD_none, truD_bool, truD_int, truD_list, truD_tuple, truD_sq, gIx_int, asB_bool, g1_one, g1L_one, g2i_two, gInt_two, res_d, res_bor, fz_d, fz_bor, andThen_nx, andThen_rt, andThen_ro, andThen_bk, andThen_ct, again_nx, again_ct, again_bk, again_rt, again_ro, ended_rt, ended_nx, ended_ro, endedO_ro, fzs, eA, ress, outsOf, argsD, setOuts, gsCons, gsNil, argEnv, wipeE, restE, turnLc, maxD, minD, plus_int, sub_int, int_eq, int_ne, int_lt, int_le, int_gt, int_ge, oNone, oSome, pick, atI_0, atI_1, atI_2, in_nm, eq_bool, ht]
          · intro s _ ht
            simp at ht
            simp [fVar_ap, fC_ap, fTup_ap, fLst_ap, fOp_ap, fB_ap, fCall_ap, fAnd_ap, fOr_ap, fNot_ap, fIf_ap, fV_ap, fAndV_ap, fOrV_ap, fL_ap, fDisp_ap, fSeq_ap, fEnum_ap, fZip_ap, gSh_ap, gTupF_ap, fLc_ap, fYes_ap, fNil_ap, fThen_ap, fAsg_ap, fOwn_ap, fAsgT_ap, fRet_ap, fRetF_ap, fRetN_ap, fBk_ap, fCt_ap, fDrop_ap, fIfS_ap, fFor_ap, fCallD_ap, fG1_ap, fIsi_ap, fSl_ap, fSlF_ap, fD_ap, fOwnD_ap, fDc_ap, fT_ap, fOrT_ap, fAndT_ap, fOrF_ap, storeD_ap, fPut_ap, fCallO_ap, fCallL_ap, appD_ap, fApp_ap, fDg_ap, fNegI_ap, fPar_ap, fCallKw_ap, fChain_ap, fGet2_ap, fGet1_ap, fWalk_ap, fNotT_ap, fNotV_ap, fG1F_ap, fOpF_ap, fCallF_ap, runD_ap, runO_ap, Option.bind_assoc, loopF_nil, loopF_cons, loopLc_nil, loopLc_cons, loopW_succ, items_list, items_tuple, items_sq, tupD_list, tupD_tuple, tupD_sq, lenD_list, lenD_tuple, lenD_sq, intD_int, intD_bool, absD_int, truD_none, truD_bool, truD_int, truD_list, truD_tuple, truD_sq, gIx_int, asB_bool, g1_one, g1L_one, g2i_two, gInt_two, res_d, res_bor, fz_d, fz_bor, andThen_nx, andThen_rt, andThen_ro, andThen_bk, andThen_ct, again_nx, again_ct, again_bk, again_rt, again_ro, ended_rt, ended_nx, ended_ro, endedO_ro, fzs, eA, ress, outsOf, argsD, setOuts, gsCons, gsNil, argEnv, wipeE, restE, turnLc, maxD, minD, plus_int, sub_int, int_eq, int_ne, int_lt, int_le, int_gt, int_ge, oNone, oSome, pick, atI_0, atI_1, atI_2, in_nm, eq_bool, ht]
          rw [n2]
          simp [fVar_ap, fC_ap, fTup_ap, fLst_ap, fOp_ap, fB_ap, fCall_ap, fAnd_ap, fOr_ap, fNot_ap, fIf_ap, fV_ap, fAndV_ap, fOrV_ap, fL_ap, fDisp_ap, fSeq_ap, fEnum_ap, fZip_ap, gSh_ap, gTupF_ap, fLc_ap, fYes_ap, fNil_ap, fThen_ap, fAsg_ap, fOwn_ap, fAsgT_ap, fRet_ap, fRetF_ap, fRetN_ap, fBk_ap, fCt_ap, fDrop_ap, fIfS_ap, fFor_ap, fCallD_ap, fG1_ap, fIsi_ap, fSl_ap, fSlF_ap, fD_ap, fOwnD_ap, fDc_ap, fT_ap, fOrT_ap, fAndT_ap, fOrF_ap, storeD_ap, fPut_ap, fCallO_ap, fCallL_ap, appD_ap, fApp_ap, fDg_ap, fNegI_ap, fPar_ap, fCallKw_ap, fChain_ap, fGet2_ap, fGet1_ap, fWalk_ap, fNotT_ap, fNotV_ap, fG1F_ap, fOpF_ap, fCallF_ap, runD_ap, runO_ap, Option.bind_assoc, loopF_nil, loopF_cons, loopLc_nil, loopLc_cons, loopW_succ, items_list, items_tuple, items_sq, tupD_list, tupD_tuple, tupD_sq, lenD_list, lenD_tuple, lenD_sq, intD_int, intD_bool, absD_int, truD_none, truD_bool, truD_int, truD_list, truD_tuple, truD_sq, gIx_int, asB_bool, g1_one, g1L_one, g2i_two, gInt_two, res_d, res_bor, fz_d, fz_bor, andThen_nx, andThen_rt, andThen_ro, andThen_bk, andThen_ct, again_nx, again_ct, again_bk, again_rt, again_ro, ended_rt, ended_nx, ended_ro, endedO_ro, fzs, eA, ress, outsOf, argsD, setOuts, gsCons, gsNil, argEnv, wipeE, restE, turnLc, maxD, minD, plus_int, sub_int, int_eq, int_ne, int_lt, int_le, int_gt, int_ge, oNone, oSome, pick, atI_0, atI_1, atI_2, slice_tail]
          rw [plus_cond (by omega)]
          simp [fVar_ap, fC_ap, fTup_ap, fLst_ap, fOp_ap, fB_ap, fCall_ap, fAnd_ap, fOr_ap, fNot_ap, fIf_ap, fV_ap, fAndV_ap, fOrV_ap, fL_ap, fDisp_ap, fSeq_ap, fEnum_ap, fZip_ap, gSh_ap, gTupF_ap, fLc_ap, fYes_ap, fNil_ap, fThen_ap, fAsg_ap, fOwn_ap, fAsgT_ap, fRet_ap, fRetF_ap, fRetN_ap, fBk_ap, fCt_ap, fDrop_ap, fIfS_ap, fFor_ap, fCallD_ap, fG1_ap, fIsi_ap, fSl_ap, fSlF_ap, fD_ap, fOwnD_ap, fDc_ap, fT_ap, fOrT_ap, fAndT_ap, fOrF_ap, storeD_ap, fPut_ap, fCallO_ap, fCallL_ap, appD_ap, fApp_ap, fDg_ap, fNegI_ap, fPar_ap, fCallKw_ap, fChain_ap, fGet2_ap, fGet1_ap, fWalk_ap, fNotT_ap, fNotV_ap, fG1F_ap, fOpF_ap, fCallF_ap, runD_ap, runO_ap, Option.bind_assoc, loopF_nil, loopF_cons, loopLc_nil, loopLc_cons, loopW_succ, items_list, items_tuple, items_sq, tupD_list, tupD_tuple, tupD_sq, lenD_list, lenD_tuple, lenD_sq, intD_int, intD_bool, absD_int, truD_none, truD_bool, truD_int, truD_list, truD_tuple, truD_sq, gIx_int, asB_bool, g1_one, g1L_one, g2i_two, gInt_two, res_d, res_bor, fz_d, fz_bor, andThen_nx, andThen_rt, andThen_ro, andThen_bk, andThen_ct, again_nx, again_ct, again_bk, again_rt, again_ro, ended_rt, ended_nx, ended_ro, endedO_ro, fzs, eA, ress, outsOf, argsD, setOuts, gsCons, gsNil, argEnv, wipeE, restE, turnLc, maxD, minD, plus_int, sub_int, int_eq, int_ne, int_lt, int_le, int_gt, int_ge, oNone, oSome, pick, atI_0, atI_1, atI_2, s2, i2]
          rw [plus_list (by simp; omega)]
          simp [fVar_ap, fC_ap, fTup_ap, fLst_ap, fOp_ap, fB_ap, fCall_ap, fAnd_ap, fOr_ap, fNot_ap, fIf_ap, fV_ap, fAndV_ap, fOrV_ap, fL_ap, fDisp_ap, fSeq_ap, fEnum_ap, fZip_ap, gSh_ap, gTupF_ap, fLc_ap, fYes_ap, fNil_ap, fThen_ap, fAsg_ap, fOwn_ap, fAsgT_ap, fRet_ap, fRetF_ap, fRetN_ap, fBk_ap, fCt_ap, fDrop_ap, fIfS_ap, fFor_ap, fCallD_ap, fG1_ap, fIsi_ap, fSl_ap, fSlF_ap, fD_ap, fOwnD_ap, fDc_ap, fT_ap, fOrT_ap, fAndT_ap, fOrF_ap, storeD_ap, fPut_ap, fCallO_ap, fCallL_ap, appD_ap, fApp_ap, fDg_ap, fNegI_ap, fPar_ap, fCallKw_ap, fChain_ap, fGet2_ap, fGet1_ap, fWalk_ap, fNotT_ap, fNotV_ap, fG1F_ap, fOpF_ap, fCallF_ap, runD_ap, runO_ap, Option.bind_assoc, loopF_nil, loopF_cons, loopLc_nil, loopLc_cons, loopW_succ, items_list, items_tuple, items_sq, tupD_list, tupD_tuple, tupD_sq, lenD_list, lenD_tuple, lenD_sq, intD_int, intD_bool, absD_int, truD_none, truD_bool, truD_int, truD_list, truD_tuple, truD_sq, gIx_int, asB_bool, g1_one, g1L_one, g2i_two, gInt_two, res_d, res_bor, fz_d, fz_bor, andThen_nx, andThen_rt, andThen_ro, andThen_bk, andThen_ct, again_nx, again_ct, again_bk, again_rt, again_ro, ended_rt, ended_nx, ended_ro, endedO_ro, fzs, eA, ress, outsOf, argsD, setOuts, gsCons, gsNil, argEnv, wipeE, restE, turnLc, maxD, minD, plus_int, sub_int, int_eq, int_ne, int_lt, int_le, int_gt, int_ge, oNone, oSome, pick, atI_0, atI_1, atI_2, e]
end K03

set_option Elab.async false
set_option linter.all false
set_option maxRecDepth 100000
set_option maxHeartbeats 1000000
namespace L2.Lp
open PySem PySem.W L2
theorem hasP_put (ps : List (PyData × PyData)) (k k2 : Key) (x : PyData) : hasP (putP ps k x) k2 = (decide (k = k2) || hasP ps k2) := by
  unfold putP
  split
  · rename_i h
    have : hasP (ps.map fun p => if keyOf? p.1 = some k then (p.1, x) else p) k2 = hasP ps k2 := by
      unfold hasP
      rw [List.any_map]
      congr 1
      funext p
      simp only [Function.comp_def]
      split <;> rfl
    rw [this]
    by_cases e : k = k2
    · subst e
      rw [h, decide_eq_true rfl]
      rfl
    · simp [e]
  · unfold hasP
    rw [List.any_append]
    simp only [List.any_cons, List.any_nil, Bool.or_false, keyOf_D, Option.some.injEq]
    rw [Bool.or_comm]
theorem getP_some (k : Key) : ∀ ps : List (PyData × PyData), (getP ps k).isSome = hasP ps k
  | [] => rfl
  | p :: ps => by
    unfold getP hasP
    rw [List.any_cons]
    split
    · rename_i h
      simp [h]
    · rename_i h
      have := getP_some k ps
      unfold hasP at this
      rw [this]
      simp [h]
section
variable {X β : Type} {enc : X → PyData} {vs : List Nat} {fg : Gf} {ft : Tf} {fk fv : Sf} {env0 : List Sl}
/-- one turn of a dict's comprehension -/
def turnDc (vs : List Nat) (fg : Gf) (ft : Tf) (fk fv : Sf) (d : PyData) (env : List Sl) : Option (Option (Key × PyData) × List Sl) := do
  let e1 ← fg d env
  let (b, e2) ← ft e1
  if b then do
    let (rk, e3) ← fk e2
    let (rv, e4) ← fv e3
    let dk ← res e4 rk
    let k ← keyOf? dk
    let (x, e5) ← fz e4 rv
    pure (some (k, x), wipeE e5 vs)
  else pure (none, wipeE e2 vs)
theorem loopDc_step (d : PyData) (ds : List PyData) (env : List Sl) (ps : List (PyData × PyData)) : loopDc vs fg ft fk fv (d :: ds) env ps = (fg d env).bind fun e1 => (ft e1).bind fun p => if p.1 = true then (fk p.2).bind fun q => (fv q.2).bind fun r => (res r.2 q.1).bind fun dk => (keyOf? dk).bind fun k => (fz r.2 r.1).bind fun y => loopDc vs fg ft fk fv ds (wipeE y.2 vs) (putP ps k y.1) else loopDc vs fg ft fk fv ds (wipeE p.2 vs) ps := rfl
theorem loopDc_some {d : PyData} {ds : List PyData} {env e : List Sl} {ps : List (PyData × PyData)} {k : Key} {x : PyData} (h : turnDc vs fg ft fk fv d env = some (some (k, x), e)) : loopDc vs fg ft fk fv (d :: ds) env ps = loopDc vs fg ft fk fv ds e (putP ps k x) := by
  unfold turnDc at h
  rw [loopDc_step]
  simp only [Option.bind_eq_bind, Option.bind_eq_some_iff, Option.pure_def] at h
  obtain ⟨e1, h1, ⟨b, e2⟩, h2, h3⟩ := h
  rw [h1, Option.bind_some, h2, Option.bind_some]
  cases b with
  | false => simp at h3
  | true =>
    simp only [if_true, Option.bind_eq_some_iff] at h3
    obtain ⟨⟨rk, e3⟩, h3, ⟨rv, e4⟩, h4, dk, h5, k2, h6, ⟨y, e5⟩, h7, h8⟩ := h3
    simp only [Option.some.injEq, Prod.mk.injEq] at h8
    obtain ⟨⟨rfl, rfl⟩, rfl⟩ := h8
    rw [if_pos rfl, h3, Option.bind_some]
    dsimp only at h4 h5 h7 ⊢
    rw [h4, Option.bind_some]
    dsimp only at h5 h7 ⊢
    rw [h5, Option.bind_some, h6, Option.bind_some, h7]
    rfl
theorem dc_all (κ : X → Key) (φ : X → PyData) : ∀ (xs : List X) (ps : List (PyData × PyData)), (∀ x ∈ xs, turnDc vs fg ft fk fv (enc x) env0 = some (some (κ x, φ x), env0)) → loopDc vs fg ft fk fv (xs.map enc) env0 ps = some (xs.foldl (fun ps x => putP ps (κ x) (φ x)) ps, env0)
  | [], ps, _ => rfl
  | x :: xs, ps, h => by
    rw [List.map_cons, loopDc_some (h x (by simp)), dc_all κ φ xs _ fun y hy => h y (by simp [hy])]
    rfl
theorem dc_all_k (κ : X → Key) (φ : X → PyData) {xs : List X} {ps : List (PyData × PyData)} {k : List (PyData × PyData) × List Sl → Option β} {z : Option β} (h : ∀ x ∈ xs, turnDc vs fg ft fk fv (enc x) env0 = some (some (κ x, φ x), env0)) (hk : k (xs.foldl (fun ps x => putP ps (κ x) (φ x)) ps, env0) = z) : (loopDc vs fg ft fk fv (xs.map enc) env0 ps).bind k = z := by
  rw [dc_all κ φ xs ps h]
  exact hk
theorem hasP_fold (κ : X → Key) (φ : X → PyData) (k : Key) : ∀ (xs : List X) (ps : List (PyData × PyData)), hasP (xs.foldl (fun ps x => putP ps (κ x) (φ x)) ps) k = (hasP ps k || xs.any fun x => decide (κ x = k))
  | [], ps => by simp
  | x :: xs, ps => by
    rw [List.foldl_cons, hasP_fold κ φ k xs, hasP_put, List.any_cons]
    cases hasP ps k <;> cases decide (κ x = k) <;> rfl
end
theorem in_dict (neg : Bool) (d : PyData) (ps : List (PyData × PyData)) (k : Key) (h : keyOf? d = some k) : gInB neg d (.dict ps) = some (.bool (neg ^^ hasP ps k)) := by
  unfold gInB gIn gInDic
  simp [items, h, getP_some]
theorem slice_to {b : Bool} {ds : List PyData} {k : Nat} (h : k ≤ ds.length) : sliceD (sq b ds) none (some (k : Int)) = some (sq b (ds.take k)) := by
  have : cutD ds none (some (k : Int)) = ds.take k := by
    unfold cutD HT.sIx
    have : ¬ (k : Int) < 0 := by omega
    simp [this, Nat.min_eq_left h]
  cases b <;> simp [sq, sliceD, this]
theorem slice_from {b : Bool} {ds : List PyData} {k : Nat} (h : k ≤ ds.length) : sliceD (sq b ds) (some (k : Int)) none = some (sq b (ds.drop k)) := by
  have : cutD ds (some (k : Int)) none = ds.drop k := by
    unfold cutD HT.sIx
    have : ¬ (k : Int) < 0 := by omega
    simp [this, Nat.min_eq_left h]
    rw [List.take_of_length_le (by simp)]
  cases b <;> simp [sq, sliceD, this]
end L2.Lp
namespace K03
open L2.Lp Lnd
open PySem (PyData Str)
/-! spots and lands of a map with areas that are unlike -/
structure Ok (ch : Chart) : Prop where
  up : ch.1.Pairwise (ltX eNm)
  few : ch.1.length ≤ 6
theorem Ok.nod {ch : Chart} (h : Ok ch) : ch.1.Nodup := asc_nodup h.up
theorem spots_asc {as : List Nm} (h : as.Nodup) : (spotsT as).Pairwise (ltX (eSpot true)) := sortX_asc (enc_spot true) (subs_all h).2.2
theorem let_asc {ch : Chart} (h : Ok ch) : (letT ch).Pairwise (ltX (eSpot true)) := (spots_asc h.nod).filter _
theorem let_nodup {ch : Chart} (h : Ok ch) : (letT ch).Nodup := asc_nodup (let_asc h)
theorem let_told {ch : Chart} (h : Ok ch) : Told (letT ch) ch.1 [] := by
  intro s hs t ht _ _ e
  have m : ∀ s ∈ letT ch, s ∈ subsT ch.1 := fun s hs => mem_sortX.mp (List.mem_filter.mp hs).1
  exact (subs_all h.nod).2.1 s (m s hs) t (m t ht) e
theorem toT_nm : toT ∘ eNm = eNm := by
  funext x
  rfl
theorem toT_spot (b : Bool) (s : Spot) : toT (eSpot b s) = eSpot true s := by
  unfold eSpot
  rw [toT_sq, List.map_map, toT_nm]
theorem toT_land (b : Bool) (s : List Spot) : toT (eLand b s) = eLand true s := by
  unfold eLand
  rw [toT_sq, List.map_map]
  congr 2
  funext x
  exact toT_spot b x
theorem dep_of {X : Type} {enc : X → PyData} {t : Ty} (h : IsEnc enc t) (x : X) : (enc x).depth ≤ t.dep := (has_lay _ _ (h.has x)).2
theorem can_of {X : Type} {enc : X → PyData} {t : Ty} (h : IsEnc enc t) (x : X) : PyData.canLay0 (enc x) = true := (has_lay _ _ (h.has x)).1
theorem plain_cut_F (a b : Bool) (ch : Chart) (land : List Spot) (h : Ok ch) : F_plain_cut [eChart a ch, eLand b land] = some (eCut true (part (letT ch) land ch.1 []), []) := by
  have h6 := h.few
  have d1 := dep_of (enc_land b) land
  have d2 : (Ty.seq b (.seq b .str)).dep = 2 := rfl
  have p := plain_parts_F a (letT ch) land (let_nodup h) ch.1 8 [] [] rfl (by omega) (by simp; omega) (let_told h)
  simp only [List.nil_append] at p
  have e0 : eCond true [] = .tuple [] := rfl
  rw [e0] at p
  have l := let_spots_F a ch (by omega)
  simp only [F_plain_cut, f_plain_cut, eChart] at l ⊢
  simp [fVar_ap, fC_ap, fTup_ap, fLst_ap, fOp_ap, fB_ap, fCall_ap, fAnd_ap, fOr_ap, fNot_ap, fIf_ap, fV_ap, fAndV_ap, fOrV_ap, fL_ap, fDisp_ap, fSeq_ap, fEnum_ap, fZip_ap, gSh_ap, gTupF_ap, fLc_ap, fYes_ap, fNil_ap, fThen_ap, fAsg_ap, fOwn_ap, fAsgT_ap, fRet_ap, fRetF_ap, fRetN_ap, fBk_ap, fCt_ap, fDrop_ap, fIfS_ap, fFor_ap, fCallD_ap, fG1_ap, fIsi_ap, fSl_ap, fSlF_ap, fD_ap, fOwnD_ap, fDc_ap, fT_ap, fOrT_ap, fAndT_ap, fOrF_ap, storeD_ap, fPut_ap, fCallO_ap, fCallL_ap, appD_ap, fApp_ap, fDg_ap, fNegI_ap, fPar_ap, fCallKw_ap, fChain_ap, fGet2_ap, fGet1_ap, fWalk_ap, fNotT_ap, fNotV_ap, fG1F_ap, fOpF_ap, fCallF_ap, runD_ap, runO_ap, Option.bind_assoc, loopF_nil, loopF_cons, loopLc_nil, loopLc_cons, loopW_succ, items_list, items_tuple, items_sq, tupD_list, tupD_tuple, tupD_sq, lenD_list, lenD_tuple, lenD_sq, intD_int, intD_bool, absD_int, truD_none, truD_bool, truD_int, truD_list, truD_tuple, truD_sq, gIx_int, asB_bool, g1_one, g1L_one, g2i_two, gInt_two, res_d, res_bor, fz_d, fz_bor, andThen_nx, andThen_rt, andThen_ro, andThen_bk, andThen_ct, again_nx, again_ct, again_bk, again_rt, again_ro, ended_rt, ended_nx, ended_ro, endedO_ro, fzs, eA, ress, outsOf, argsD, setOuts, gsCons, gsNil, argEnv, wipeE, restE, turnLc, maxD, minD, plus_int, sub_int, int_eq, int_ne, int_lt, int_le, int_gt, int_ge, oNone, oSome, pick, atI_0, atI_1, atI_2, l, as_tuples_F 8 (eLand b land) (by omega), toT_land, p]
  rfl
theorem is_asc_F {X : Type} {enc : X → PyData} {t : Ty} (h : IsEnc enc t) (hi : ∀ x i, enc x ≠ .int i) (b : Bool) (xs : List X) (hp : xs.Pairwise (ltX enc)) (hl : xs.length ≤ 1000) : F_is_ascending [sq b (xs.map enc)] = some (.bool true, []) := by
  simp only [F_is_ascending, f_is_ascending]
  have r : rng1 [.int ((xs.length : Int) - 1)] = some ((List.range (xs.length - 1)).map fun i : Nat => .int (0 + (i : Nat))) := by
    have e : ((xs.length : Int) - 1).toNat = xs.length - 1 := by omega
    show (if -(2 ^ 62) ≤ (xs.length : Int) - 1 ∧ (xs.length : Int) - 1 ≤ 16777216 then some (rangeD 0 ((xs.length : Int) - 1).toNat) else none) = _
    rw [if_pos ⟨by omega, by omega⟩, e]
    rfl
  simp [fVar_ap, fC_ap, fTup_ap, fLst_ap, fOp_ap, fB_ap, fCall_ap, fAnd_ap, fOr_ap, fNot_ap, fIf_ap, fV_ap, fAndV_ap, fOrV_ap, fL_ap, fDisp_ap, fSeq_ap, fEnum_ap, fZip_ap, gSh_ap, gTupF_ap, fLc_ap, fYes_ap, fNil_ap, fThen_ap, fAsg_ap, fOwn_ap, fAsgT_ap, fRet_ap, fRetF_ap, fRetN_ap, fBk_ap, fCt_ap, fDrop_ap, fIfS_ap, fFor_ap, fCallD_ap, fG1_ap, fIsi_ap, fSl_ap, fSlF_ap, fD_ap, fOwnD_ap, fDc_ap, fT_ap, fOrT_ap, fAndT_ap, fOrF_ap, storeD_ap, fPut_ap, fCallO_ap, fCallL_ap, appD_ap, fApp_ap, fDg_ap, fNegI_ap, fPar_ap, fCallKw_ap, fChain_ap, fGet2_ap, fGet1_ap, fWalk_ap, fNotT_ap, fNotV_ap, fG1F_ap, fOpF_ap, fCallF_ap, runD_ap, runO_ap, Option.bind_assoc, loopF_nil, loopF_cons, loopLc_nil, loopLc_cons, loopW_succ, items_list, items_tuple, items_sq, tupD_list, tupD_tuple, tupD_sq, lenD_list, lenD_tuple, lenD_sq, intD_int, intD_bool, absD_int, truD_none, truD_bool, truD_int, truD_list, truD_tuple, truD_sq, gIx_int, asB_bool, g1_one, g1L_one, g2i_two, gInt_two, res_d, res_bor, fz_d, fz_bor, andThen_nx, andThen_rt, andThen_ro, andThen_bk, andThen_ct, again_nx, again_ct, again_bk, again_rt, again_ro, ended_rt, ended_nx, ended_ro, endedO_ro, fzs, eA, ress, outsOf, argsD, setOuts, gsCons, gsNil, argEnv, wipeE, restE, turnLc, maxD, minD, plus_int, sub_int, int_eq, int_ne, int_lt, int_le, int_gt, int_ge, oNone, oSome, pick, atI_0, atI_1, atI_2, r]
  apply lc_all_k (φ := fun _ => .bool true)
  · intro i hm
    have hm := List.mem_range.mp hm
    have e1 : L2.atI (xs.map enc) (i : Int) = some (enc (xs[i]'(by omega))) := atI_map enc xs i (by omega)
    have e2 : L2.atI (xs.map enc) ((i : Int) + 1) = some (enc (xs[i + 1]'(by omega))) := atI_map enc xs (i + 1) (by omega)
    have lt : PySem.W.dataLt (enc (xs[i]'(by omega))) (enc (xs[i + 1]'(by omega))) = true := (List.pairwise_iff_getElem.mp hp) i (i + 1) (by omega) (by omega) (by omega)
    simp [fVar_ap, fC_ap, fTup_ap, fLst_ap, fOp_ap, fB_ap, fCall_ap, fAnd_ap, fOr_ap, fNot_ap, fIf_ap, fV_ap, fAndV_ap, fOrV_ap, fL_ap, fDisp_ap, fSeq_ap, fEnum_ap, fZip_ap, gSh_ap, gTupF_ap, fLc_ap, fYes_ap, fNil_ap, fThen_ap, fAsg_ap, fOwn_ap, fAsgT_ap, fRet_ap, fRetF_ap, fRetN_ap, fBk_ap, fCt_ap, fDrop_ap, fIfS_ap, fFor_ap, fCallD_ap, fG1_ap, fIsi_ap, fSl_ap, fSlF_ap, fD_ap, fOwnD_ap, fDc_ap, fT_ap, fOrT_ap, fAndT_ap, fOrF_ap, storeD_ap, fPut_ap, fCallO_ap, fCallL_ap, appD_ap, fApp_ap, fDg_ap, fNegI_ap, fPar_ap, fCallKw_ap, fChain_ap, fGet2_ap, fGet1_ap, fWalk_ap, fNotT_ap, fNotV_ap, fG1F_ap, fOpF_ap, fCallF_ap, runD_ap, runO_ap, Option.bind_assoc, loopF_nil, loopF_cons, loopLc_nil, loopLc_cons, loopW_succ, items_list, items_tuple, items_sq, tupD_list, tupD_tuple, tupD_sq, lenD_list, lenD_tuple, lenD_sq, intD_int, intD_bool, absD_int, truD_none, truD_bool, truD_int, truD_list, truD_tuple, truD_sq, gIx_int, asB_bool, g1_one, g1L_one, g2i_two, gInt_two, res_d, res_bor, fz_d, fz_bor, andThen_nx, andThen_rt, andThen_ro, andThen_bk, andThen_ct, again_nx, again_ct, again_bk, again_rt, again_ro, ended_rt, ended_nx, ended_ro, endedO_ro, fzs, eA, ress, outsOf, argsD, setOuts, gsCons, gsNil, argEnv, wipeE, restE, turnLc, maxD, minD, plus_int, sub_int, int_eq, int_ne, int_lt, int_le, int_gt, int_ge, oNone, oSome, pick, atI_0, atI_1, atI_2, e1, e2, lt_enc h _ _ (hi _), lt]
  · have := all_map (fun _ : Nat => true) (List.range (xs.length - 1))
    simp [fVar_ap, fC_ap, fTup_ap, fLst_ap, fOp_ap, fB_ap, fCall_ap, fAnd_ap, fOr_ap, fNot_ap, fIf_ap, fV_ap, fAndV_ap, fOrV_ap, fL_ap, fDisp_ap, fSeq_ap, fEnum_ap, fZip_ap, gSh_ap, gTupF_ap, fLc_ap, fYes_ap, fNil_ap, fThen_ap, fAsg_ap, fOwn_ap, fAsgT_ap, fRet_ap, fRetF_ap, fRetN_ap, fBk_ap, fCt_ap, fDrop_ap, fIfS_ap, fFor_ap, fCallD_ap, fG1_ap, fIsi_ap, fSl_ap, fSlF_ap, fD_ap, fOwnD_ap, fDc_ap, fT_ap, fOrT_ap, fAndT_ap, fOrF_ap, storeD_ap, fPut_ap, fCallO_ap, fCallL_ap, appD_ap, fApp_ap, fDg_ap, fNegI_ap, fPar_ap, fCallKw_ap, fChain_ap, fGet2_ap, fGet1_ap, fWalk_ap, fNotT_ap, fNotV_ap, fG1F_ap, fOpF_ap, fCallF_ap, runD_ap, runO_ap, Option.bind_assoc, loopF_nil, loopF_cons, loopLc_nil, loopLc_cons, loopW_succ, items_list, items_tuple, items_sq, tupD_list, tupD_tuple, tupD_sq, lenD_list, lenD_tuple, lenD_sq, intD_int, intD_bool, absD_int, truD_none, truD_bool, truD_int, truD_list, truD_tuple, truD_sq, gIx_int, asB_bool, g1_one, g1L_one, g2i_two, gInt_two, res_d, res_bor, fz_d, fz_bor, andThen_nx, andThen_rt, andThen_ro, andThen_bk, andThen_ct, again_nx, again_ct, again_bk, again_rt, again_ro, ended_rt, ended_nx, ended_ro, endedO_ro, fzs, eA, ress, outsOf, argsD, setOuts, gsCons, gsNil, argEnv, wipeE, restE, turnLc, maxD, minD, plus_int, sub_int, int_eq, int_ne, int_lt, int_le, int_gt, int_ge, oNone, oSome, pick, atI_0, atI_1, atI_2, this]
theorem lookup_F (b : Bool) (as : List Nm) : F_lookup [eSpot b as] = some (.dict (as.foldl (fun ps x => putP ps (.inr x.s) (.bool true)) []), []) := by
  simp only [F_lookup, f_lookup, eSpot]
  simp [fVar_ap, fC_ap, fTup_ap, fLst_ap, fOp_ap, fB_ap, fCall_ap, fAnd_ap, fOr_ap, fNot_ap, fIf_ap, fV_ap, fAndV_ap, fOrV_ap, fL_ap, fDisp_ap, fSeq_ap, fEnum_ap, fZip_ap, gSh_ap, gTupF_ap, fLc_ap, fYes_ap, fNil_ap, fThen_ap, fAsg_ap, fOwn_ap, fAsgT_ap, fRet_ap, fRetF_ap, fRetN_ap, fBk_ap, fCt_ap, fDrop_ap, fIfS_ap, fFor_ap, fCallD_ap, fG1_ap, fIsi_ap, fSl_ap, fSlF_ap, fD_ap, fOwnD_ap, fDc_ap, fT_ap, fOrT_ap, fAndT_ap, fOrF_ap, storeD_ap, fPut_ap, fCallO_ap, fCallL_ap, appD_ap, fApp_ap, fDg_ap, fNegI_ap, fPar_ap, fCallKw_ap, fChain_ap, fGet2_ap, fGet1_ap, fWalk_ap, fNotT_ap, fNotV_ap, fG1F_ap, fOpF_ap, fCallF_ap, runD_ap, runO_ap, Option.bind_assoc, loopF_nil, loopF_cons, loopLc_nil, loopLc_cons, loopW_succ, items_list, items_tuple, items_sq, tupD_list, tupD_tuple, tupD_sq, lenD_list, lenD_tuple, lenD_sq, intD_int, intD_bool, absD_int, truD_none, truD_bool, truD_int, truD_list, truD_tuple, truD_sq, gIx_int, asB_bool, g1_one, g1L_one, g2i_two, gInt_two, res_d, res_bor, fz_d, fz_bor, andThen_nx, andThen_rt, andThen_ro, andThen_bk, andThen_ct, again_nx, again_ct, again_bk, again_rt, again_ro, ended_rt, ended_nx, ended_ro, endedO_ro, fzs, eA, ress, outsOf, argsD, setOuts, gsCons, gsNil, argEnv, wipeE, restE, turnLc, maxD, minD, plus_int, sub_int, int_eq, int_ne, int_lt, int_le, int_gt, int_ge, oNone, oSome, pick, atI_0, atI_1, atI_2]
  apply dc_all_k (κ := fun x : Nm => .inr x.s) (φ := fun _ => .bool true)
  · intro x _
    simp [turnDc, fVar_ap, fC_ap, fTup_ap, fLst_ap, fOp_ap, fB_ap, fCall_ap, fAnd_ap, fOr_ap, fNot_ap, fIf_ap, fV_ap, fAndV_ap, fOrV_ap, fL_ap, fDisp_ap, fSeq_ap, fEnum_ap, fZip_ap, gSh_ap, gTupF_ap, fLc_ap, fYes_ap, fNil_ap, fThen_ap, fAsg_ap, fOwn_ap, fAsgT_ap, fRet_ap, fRetF_ap, fRetN_ap, fBk_ap, fCt_ap, fDrop_ap, fIfS_ap, fFor_ap, fCallD_ap, fG1_ap, fIsi_ap, fSl_ap, fSlF_ap, fD_ap, fOwnD_ap, fDc_ap, fT_ap, fOrT_ap, fAndT_ap, fOrF_ap, storeD_ap, fPut_ap, fCallO_ap, fCallL_ap, appD_ap, fApp_ap, fDg_ap, fNegI_ap, fPar_ap, fCallKw_ap, fChain_ap, fGet2_ap, fGet1_ap, fWalk_ap, fNotT_ap, fNotV_ap, fG1F_ap, fOpF_ap, fCallF_ap, runD_ap, runO_ap, Option.bind_assoc, loopF_nil, loopF_cons, loopLc_nil, loopLc_cons, loopW_succ, items_list, items_tuple, items_sq, tupD_list, tupD_tuple, tupD_sq, lenD_list, lenD_tuple, lenD_sq, intD_int, intD_bool, absD_int, truD_none, truD_bool, truD_int, truD_list, truD_tuple, truD_sq, gIx_int, asB_bool, g1_one, g1L_one, g2i_two, gInt_two, res_d, res_bor, fz_d, fz_bor, andThen_nx, andThen_rt, andThen_ro, andThen_bk, andThen_ct, again_nx, again_ct, again_bk, again_rt, again_ro, ended_rt, ended_nx, ended_ro, endedO_ro, fzs, eA, ress, outsOf, argsD, setOuts, gsCons, gsNil, argEnv, wipeE, restE, turnLc, maxD, minD, plus_int, sub_int, int_eq, int_ne, int_lt, int_le, int_gt, int_ge, oNone, oSome, pick, atI_0, atI_1, atI_2, keyOf?, eNm]
  · simp [fVar_ap, fC_ap, fTup_ap, fLst_ap, fOp_ap, fB_ap, fCall_ap, fAnd_ap, fOr_ap, fNot_ap, fIf_ap, fV_ap, fAndV_ap, fOrV_ap, fL_ap, fDisp_ap, fSeq_ap, fEnum_ap, fZip_ap, gSh_ap, gTupF_ap, fLc_ap, fYes_ap, fNil_ap, fThen_ap, fAsg_ap, fOwn_ap, fAsgT_ap, fRet_ap, fRetF_ap, fRetN_ap, fBk_ap, fCt_ap, fDrop_ap, fIfS_ap, fFor_ap, fCallD_ap, fG1_ap, fIsi_ap, fSl_ap, fSlF_ap, fD_ap, fOwnD_ap, fDc_ap, fT_ap, fOrT_ap, fAndT_ap, fOrF_ap, storeD_ap, fPut_ap, fCallO_ap, fCallL_ap, appD_ap, fApp_ap, fDg_ap, fNegI_ap, fPar_ap, fCallKw_ap, fChain_ap, fGet2_ap, fGet1_ap, fWalk_ap, fNotT_ap, fNotV_ap, fG1F_ap, fOpF_ap, fCallF_ap, runD_ap, runO_ap, Option.bind_assoc, loopF_nil, loopF_cons, loopLc_nil, loopLc_cons, loopW_succ, items_list, items_tuple, items_sq, tupD_list, tupD_tuple, tupD_sq, lenD_list, lenD_tuple, lenD_sq, intD_int, intD_bool, absD_int, truD_none, truD_bool, truD_int, truD_list, truD_tuple, truD_sq, gIx_int, asB_bool, g1_one, g1L_one, g2i_two, gInt_two, res_d, res_bor, fz_d, fz_bor, andThen_nx, andThen_rt, andThen_ro, andThen_bk, andThen_ct, again_nx, again_ct, again_bk, again_rt, again_ro, ended_rt, ended_nx, ended_ro, endedO_ro, fzs, eA, ress, outsOf, argsD, setOuts, gsCons, gsNil, argEnv, wipeE, restE, turnLc, maxD, minD, plus_int, sub_int, int_eq, int_ne, int_lt, int_le, int_gt, int_ge, oNone, oSome, pick, atI_0, atI_1, atI_2]
theorem in_known (neg : Bool) (x : Nm) (as : List Nm) : gInB neg (eNm x) (.dict (as.foldl (fun ps x => putP ps (.inr x.s) (.bool true)) [])) = some (.bool (neg ^^ decide (x ∈ as))) := by
  rw [in_dict neg _ _ (.inr x.s) rfl, hasP_fold (fun x : Nm => .inr x.s) (fun _ => .bool true)]
  have : (as.any fun y => decide ((Sum.inr y.s : L2.Key) = .inr x.s)) = decide (x ∈ as) := by
    rw [Bool.eq_iff_iff, List.any_eq_true, decide_eq_true_eq]
    constructor
    · rintro ⟨y, hy, e⟩
      have e2 : y = x := by
        cases y
        cases x
        simpa using e
      exact e2 ▸ hy
    · intro hx
      exact ⟨x, hx, by simp⟩
  rw [this]
  simp [hasP]
theorem is_side_F (as : List Nm) (p : Nm × Bool) (h : p.1 ∈ as) : F_is_side [.dict (as.foldl (fun ps x => putP ps (.inr x.s) (.bool true)) []), ePair true p] = some (.bool true, []) := by
  have r : F_is_row [ePair true p, .int 2] = some (.bool true, []) := by
    simp only [F_is_row, f_is_row, ePair, sq]
    simp [fVar_ap, fC_ap, fTup_ap, fLst_ap, fOp_ap, fB_ap, fCall_ap, fAnd_ap, fOr_ap, fNot_ap, fIf_ap, fV_ap, fAndV_ap, fOrV_ap, fL_ap, fDisp_ap, fSeq_ap, fEnum_ap, fZip_ap, gSh_ap, gTupF_ap, fLc_ap, fYes_ap, fNil_ap, fThen_ap, fAsg_ap, fOwn_ap, fAsgT_ap, fRet_ap, fRetF_ap, fRetN_ap, fBk_ap, fCt_ap, fDrop_ap, fIfS_ap, fFor_ap, fCallD_ap, fG1_ap, fIsi_ap, fSl_ap, fSlF_ap, fD_ap, fOwnD_ap, fDc_ap, fT_ap, fOrT_ap, fAndT_ap, fOrF_ap, storeD_ap, fPut_ap, fCallO_ap, fCallL_ap, appD_ap, fApp_ap, fDg_ap, fNegI_ap, fPar_ap, fCallKw_ap, fChain_ap, fGet2_ap, fGet1_ap, fWalk_ap, fNotT_ap, fNotV_ap, fG1F_ap, fOpF_ap, fCallF_ap, runD_ap, runO_ap, Option.bind_assoc, loopF_nil, loopF_cons, loopLc_nil, loopLc_cons, loopW_succ, items_list, items_tuple, items_sq, tupD_list, tupD_tuple, tupD_sq, lenD_list, lenD_tuple, lenD_sq, intD_int, intD_bool, absD_int, truD_none, truD_bool, truD_int, truD_list, truD_tuple, truD_sq, gIx_int, asB_bool, g1_one, g1L_one, g2i_two, gInt_two, res_d, res_bor, fz_d, fz_bor, andThen_nx, andThen_rt, andThen_ro, andThen_bk, andThen_ct, again_nx, again_ct, again_bk, again_rt, again_ro, ended_rt, ended_nx, ended_ro, endedO_ro, fzs, eA, ress, outsOf, argsD, setOuts, gsCons, gsNil, argEnv, wipeE, restE, turnLc, maxD, minD, plus_int, sub_int, int_eq, int_ne, int_lt, int_le, int_gt, int_ge, oNone, oSome, pick, atI_0, atI_1, atI_2, isOf_tuple]
  have s : isOf ["str"] (eNm p.1) = some true := by rw [isOf_str]; rfl
  simp only [F_is_side, f_is_side]
  simp [fVar_ap, fC_ap, fTup_ap, fLst_ap, fOp_ap, fB_ap, fCall_ap, fAnd_ap, fOr_ap, fNot_ap, fIf_ap, fV_ap, fAndV_ap, fOrV_ap, fL_ap, fDisp_ap, fSeq_ap, fEnum_ap, fZip_ap, gSh_ap, gTupF_ap, fLc_ap, fYes_ap, fNil_ap, fThen_ap, fAsg_ap, fOwn_ap, fAsgT_ap, fRet_ap, fRetF_ap, fRetN_ap, fBk_ap, fCt_ap, fDrop_ap, fIfS_ap, fFor_ap, fCallD_ap, fG1_ap, fIsi_ap, fSl_ap, fSlF_ap, fD_ap, fOwnD_ap, fDc_ap, fT_ap, fOrT_ap, fAndT_ap, fOrF_ap, storeD_ap, fPut_ap, fCallO_ap, fCallL_ap, appD_ap, fApp_ap, fDg_ap, fNegI_ap, fPar_ap, fCallKw_ap, fChain_ap, fGet2_ap, fGet1_ap, fWalk_ap, fNotT_ap, fNotV_ap, fG1F_ap, fOpF_ap, fCallF_ap, runD_ap, runO_ap, Option.bind_assoc, loopF_nil, loopF_cons, loopLc_nil, loopLc_cons, loopW_succ, items_list, items_tuple, items_sq, tupD_list, tupD_tuple, tupD_sq, lenD_list, lenD_tuple, lenD_sq, intD_int, intD_bool, absD_int, truD_none, truD_bool, truD_int, truD_list, truD_tuple, truD_sq, gIx_int, asB_bool, g1_one, g1L_one, g2i_two, gInt_two, res_d, res_bor, fz_d, fz_bor, andThen_nx, andThen_rt, andThen_ro, andThen_bk, andThen_ct, again_nx, again_ct, again_bk, again_rt, again_ro, ended_rt, ended_nx, ended_ro, endedO_ro, fzs, eA, ress, outsOf, argsD, setOuts, gsCons, gsNil, argEnv, wipeE, restE, turnLc, maxD, minD, plus_int, sub_int, int_eq, int_ne, int_lt, int_le, int_gt, int_ge, oNone, oSome, pick, atI_0, atI_1, atI_2, r]
  simp [fVar_ap, fC_ap, fTup_ap, fLst_ap, fOp_ap, fB_ap, fCall_ap, fAnd_ap, fOr_ap, fNot_ap, fIf_ap, fV_ap, fAndV_ap, fOrV_ap, fL_ap, fDisp_ap, fSeq_ap, fEnum_ap, fZip_ap, gSh_ap, gTupF_ap, fLc_ap, fYes_ap, fNil_ap, fThen_ap, fAsg_ap, fOwn_ap, fAsgT_ap, fRet_ap, fRetF_ap, fRetN_ap, fBk_ap, fCt_ap, fDrop_ap, fIfS_ap, fFor_ap, fCallD_ap, fG1_ap, fIsi_ap, fSl_ap, fSlF_ap, fD_ap, fOwnD_ap, fDc_ap, fT_ap, fOrT_ap, fAndT_ap, fOrF_ap, storeD_ap, fPut_ap, fCallO_ap, fCallL_ap, appD_ap, fApp_ap, fDg_ap, fNegI_ap, fPar_ap, fCallKw_ap, fChain_ap, fGet2_ap, fGet1_ap, fWalk_ap, fNotT_ap, fNotV_ap, fG1F_ap, fOpF_ap, fCallF_ap, runD_ap, runO_ap, Option.bind_assoc, loopF_nil, loopF_cons, loopLc_nil, loopLc_cons, loopW_succ, items_list, items_tuple, items_sq, tupD_list, tupD_tuple, tupD_sq, lenD_list, lenD_tuple, lenD_sq, intD_int, intD_bool, absD_int, truD_none, truD_bool, truD_int, truD_list, truD_tuple, truD_sq, gIx_int, asB_bool, g1_one, g1L_one, g2i_two, gInt_two, res_d, res_bor, fz_d, fz_bor, andThen_nx, andThen_rt, andThen_ro, andThen_bk, andThen_ct, again_nx, again_ct, again_bk, again_rt, again_ro, ended_rt, ended_nx, ended_ro, endedO_ro, fzs, eA, ress, outsOf, argsD, setOuts, gsCons, gsNil, argEnv, wipeE, restE, turnLc, maxD, minD, plus_int, sub_int, int_eq, int_ne, int_lt, int_le, int_gt, int_ge, oNone, oSome, pick, atI_0, atI_1, atI_2, ePair, s, in_known, h, isOf_bool, eBool]
theorem is_condition_over_F (as : List Nm) (c : Cond) (h : ∀ p ∈ c, p.1 ∈ as) (hp : (c.map (·.1)).Pairwise (ltX eNm)) (hl : c.length ≤ 1000) : F_is_condition_over [.dict (as.foldl (fun ps x => putP ps (.inr x.s) (.bool true)) []), eCond true c] = some (.bool true, []) := by
  have t : isOf ["tuple"] (eCond true c) = some true := by rw [isOf_tuple]; rfl
  have i : items (eCond true c) = some (c.map (ePair true)) := rfl
  simp only [F_is_condition_over, f_is_condition_over]
  simp [fVar_ap, fC_ap, fTup_ap, fLst_ap, fOp_ap, fB_ap, fCall_ap, fAnd_ap, fOr_ap, fNot_ap, fIf_ap, fV_ap, fAndV_ap, fOrV_ap, fL_ap, fDisp_ap, fSeq_ap, fEnum_ap, fZip_ap, gSh_ap, gTupF_ap, fLc_ap, fYes_ap, fNil_ap, fThen_ap, fAsg_ap, fOwn_ap, fAsgT_ap, fRet_ap, fRetF_ap, fRetN_ap, fBk_ap, fCt_ap, fDrop_ap, fIfS_ap, fFor_ap, fCallD_ap, fG1_ap, fIsi_ap, fSl_ap, fSlF_ap, fD_ap, fOwnD_ap, fDc_ap, fT_ap, fOrT_ap, fAndT_ap, fOrF_ap, storeD_ap, fPut_ap, fCallO_ap, fCallL_ap, appD_ap, fApp_ap, fDg_ap, fNegI_ap, fPar_ap, fCallKw_ap, fChain_ap, fGet2_ap, fGet1_ap, fWalk_ap, fNotT_ap, fNotV_ap, fG1F_ap, fOpF_ap, fCallF_ap, runD_ap, runO_ap, Option.bind_assoc, loopF_nil, loopF_cons, loopLc_nil, loopLc_cons, loopW_succ, items_list, items_tuple, items_sq, tupD_list, tupD_tuple, tupD_sq, lenD_list, lenD_tuple, lenD_sq, intD_int, intD_bool, absD_int, truD_none, truD_bool, truD_int, truD_list, truD_tuple, truD_sq, gIx_int, asB_bool, g1_one, g1L_one, g2i_two, gInt_two, res_d, res_bor, fz_d, fz_bor, andThen_nx, andThen_rt, andThen_ro, andThen_bk, andThen_ct, again_nx, again_ct, again_bk, again_rt, again_ro, ended_rt, ended_nx, ended_ro, endedO_ro, fzs, eA, ress, outsOf, argsD, setOuts, gsCons, gsNil, argEnv, wipeE, restE, turnLc, maxD, minD, plus_int, sub_int, int_eq, int_ne, int_lt, int_le, int_gt, int_ge, oNone, oSome, pick, atI_0, atI_1, atI_2, t, i]
  apply lc_all_k (φ := fun _ => .bool true)
  · intro p hm
    simp [fVar_ap, fC_ap, fTup_ap, fLst_ap, fOp_ap, fB_ap, fCall_ap, fAnd_ap, fOr_ap, fNot_ap, fIf_ap, fV_ap, fAndV_ap, fOrV_ap, fL_ap, fDisp_ap, fSeq_ap, fEnum_ap, fZip_ap, gSh_ap, gTupF_ap, fLc_ap, fYes_ap, fNil_ap, fThen_ap, fAsg_ap, fOwn_ap, fAsgT_ap, fRet_ap, fRetF_ap, fRetN_ap, fBk_ap, fCt_ap, fDrop_ap, fIfS_ap, fFor_ap, fCallD_ap, fG1_ap, fIsi_ap, fSl_ap, fSlF_ap, fD_ap, fOwnD_ap, fDc_ap, fT_ap, fOrT_ap, fAndT_ap, fOrF_ap, storeD_ap, fPut_ap, fCallO_ap, fCallL_ap, appD_ap, fApp_ap, fDg_ap, fNegI_ap, fPar_ap, fCallKw_ap, fChain_ap, fGet2_ap, fGet1_ap, fWalk_ap, fNotT_ap, fNotV_ap, fG1F_ap, fOpF_ap, fCallF_ap, runD_ap, runO_ap, Option.bind_assoc, loopF_nil, loopF_cons, loopLc_nil, loopLc_cons, loopW_succ, items_list, items_tuple, items_sq, tupD_list, tupD_tuple, tupD_sq, lenD_list, lenD_tuple, lenD_sq, intD_int, intD_bool, absD_int, truD_none, truD_bool, truD_int, truD_list, truD_tuple, truD_sq, gIx_int, asB_bool, g1_one, g1L_one, g2i_two, gInt_two, res_d, res_bor, fz_d, fz_bor, andThen_nx, andThen_rt, andThen_ro, andThen_bk, andThen_ct, again_nx, again_ct, again_bk, again_rt, again_ro, ended_rt, ended_nx, ended_ro, endedO_ro, fzs, eA, ress, outsOf, argsD, setOuts, gsCons, gsNil, argEnv, wipeE, restE, turnLc, maxD, minD, plus_int, sub_int, int_eq, int_ne, int_lt, int_le, int_gt, int_ge, oNone, oSome, pick, atI_0, atI_1, atI_2, is_side_F as p (h p hm)]
  · have := all_map (fun _ : Nm × Bool => true) c
    simp [fVar_ap, fC_ap, fTup_ap, fLst_ap, fOp_ap, fB_ap, fCall_ap, fAnd_ap, fOr_ap, fNot_ap, fIf_ap, fV_ap, fAndV_ap, fOrV_ap, fL_ap, fDisp_ap, fSeq_ap, fEnum_ap, fZip_ap, gSh_ap, gTupF_ap, fLc_ap, fYes_ap, fNil_ap, fThen_ap, fAsg_ap, fOwn_ap, fAsgT_ap, fRet_ap, fRetF_ap, fRetN_ap, fBk_ap, fCt_ap, fDrop_ap, fIfS_ap, fFor_ap, fCallD_ap, fG1_ap, fIsi_ap, fSl_ap, fSlF_ap, fD_ap, fOwnD_ap, fDc_ap, fT_ap, fOrT_ap, fAndT_ap, fOrF_ap, storeD_ap, fPut_ap, fCallO_ap, fCallL_ap, appD_ap, fApp_ap, fDg_ap, fNegI_ap, fPar_ap, fCallKw_ap, fChain_ap, fGet2_ap, fGet1_ap, fWalk_ap, fNotT_ap, fNotV_ap, fG1F_ap, fOpF_ap, fCallF_ap, runD_ap, runO_ap, Option.bind_assoc, loopF_nil, loopF_cons, loopLc_nil, loopLc_cons, loopW_succ, items_list, items_tuple, items_sq, tupD_list, tupD_tuple, tupD_sq, lenD_list, lenD_tuple, lenD_sq, intD_int, intD_bool, absD_int, truD_none, truD_bool, truD_int, truD_list, truD_tuple, truD_sq, gIx_int, asB_bool, g1_one, g1L_one, g2i_two, gInt_two, res_d, res_bor, fz_d, fz_bor, andThen_nx, andThen_rt, andThen_ro, andThen_bk, andThen_ct, again_nx, again_ct, again_bk, again_rt, again_ro, ended_rt, ended_nx, ended_ro, endedO_ro, fzs, eA, ress, outsOf, argsD, setOuts, gsCons, gsNil, argEnv, wipeE, restE, turnLc, maxD, minD, plus_int, sub_int, int_eq, int_ne, int_lt, int_le, int_gt, int_ge, oNone, oSome, pick, atI_0, atI_1, atI_2, this, i]
    apply lc_all_k (φ := fun p => eNm p.1)
    · intro p _
      simp [fVar_ap, fC_ap, fTup_ap, fLst_ap, fOp_ap, fB_ap, fCall_ap, fAnd_ap, fOr_ap, fNot_ap, fIf_ap, fV_ap, fAndV_ap, fOrV_ap, fL_ap, fDisp_ap, fSeq_ap, fEnum_ap, fZip_ap, gSh_ap, gTupF_ap, fLc_ap, fYes_ap, fNil_ap, fThen_ap, fAsg_ap, fOwn_ap, fAsgT_ap, fRet_ap, fRetF_ap, fRetN_ap, fBk_ap, fCt_ap, fDrop_ap, fIfS_ap, fFor_ap, fCallD_ap, fG1_ap, fIsi_ap, fSl_ap, fSlF_ap, fD_ap, fOwnD_ap, fDc_ap, fT_ap, fOrT_ap, fAndT_ap, fOrF_ap, storeD_ap, fPut_ap, fCallO_ap, fCallL_ap, appD_ap, fApp_ap, fDg_ap, fNegI_ap, fPar_ap, fCallKw_ap, fChain_ap, fGet2_ap, fGet1_ap, fWalk_ap, fNotT_ap, fNotV_ap, fG1F_ap, fOpF_ap, fCallF_ap, runD_ap, runO_ap, Option.bind_assoc, loopF_nil, loopF_cons, loopLc_nil, loopLc_cons, loopW_succ, items_list, items_tuple, items_sq, tupD_list, tupD_tuple, tupD_sq, lenD_list, lenD_tuple, lenD_sq, intD_int, intD_bool, absD_int, truD_none, truD_bool, truD_int, truD_list, truD_tuple, truD_sq, gIx_int, asB_bool, g1_one, g1L_one, g2i_two, gInt_two, res_d, res_bor, fz_d, fz_bor, andThen_nx, andThen_rt, andThen_ro, andThen_bk, andThen_ct, again_nx, again_ct, again_bk, again_rt, again_ro, ended_rt, ended_nx, ended_ro, endedO_ro, fzs, eA, ress, outsOf, argsD, setOuts, gsCons, gsNil, argEnv, wipeE, restE, turnLc, maxD, minD, plus_int, sub_int, int_eq, int_ne, int_lt, int_le, int_gt, int_ge, oNone, oSome, pick, atI_0, atI_1, atI_2, ePair]
    · have a := is_asc_F enc_nm (fun x i z => by cases z) false (c.map (·.1)) hp (by simpa using hl)
      rw [List.map_map] at a
      have a2 : F_is_ascending [.list (c.map fun p => eNm p.1)] = some (.bool true, []) := a
      simp [fVar_ap, fC_ap, fTup_ap, fLst_ap, fOp_ap, fB_ap, fCall_ap, fAnd_ap, fOr_ap, fNot_ap, fIf_ap, fV_ap, fAndV_ap, fOrV_ap, fL_ap, fDisp_ap, fSeq_ap, fEnum_ap, fZip_ap, gSh_ap, gTupF_ap, fLc_ap, fYes_ap, fNil_ap, fThen_ap, fAsg_ap, fOwn_ap, fAsgT_ap, fRet_ap, fRetF_ap, fRetN_ap, fBk_ap, fCt_ap, fDrop_ap, fIfS_ap, fFor_ap, fCallD_ap, fG1_ap, fIsi_ap, fSl_ap, fSlF_ap, fD_ap, fOwnD_ap, fDc_ap, fT_ap, fOrT_ap, fAndT_ap, fOrF_ap, storeD_ap, fPut_ap, fCallO_ap, fCallL_ap, appD_ap, fApp_ap, fDg_ap, fNegI_ap, fPar_ap, fCallKw_ap, fChain_ap, fGet2_ap, fGet1_ap, fWalk_ap, fNotT_ap, fNotV_ap, fG1F_ap, fOpF_ap, fCallF_ap, runD_ap, runO_ap, Option.bind_assoc, loopF_nil, loopF_cons, loopLc_nil, loopLc_cons, loopW_succ, items_list, items_tuple, items_sq, tupD_list, tupD_tuple, tupD_sq, lenD_list, lenD_tuple, lenD_sq, intD_int, intD_bool, absD_int, truD_none, truD_bool, truD_int, truD_list, truD_tuple, truD_sq, gIx_int, asB_bool, g1_one, g1L_one, g2i_two, gInt_two, res_d, res_bor, fz_d, fz_bor, andThen_nx, andThen_rt, andThen_ro, andThen_bk, andThen_ct, again_nx, again_ct, again_bk, again_rt, again_ro, ended_rt, ended_nx, ended_ro, endedO_ro, fzs, eA, ress, outsOf, argsD, setOuts, gsCons, gsNil, argEnv, wipeE, restE, turnLc, maxD, minD, plus_int, sub_int, int_eq, int_ne, int_lt, int_le, int_gt, int_ge, oNone, oSome, pick, atI_0, atI_1, atI_2, a2]
theorem is_cut_F (b : Bool) (as : List Nm) (cut : Cut) (h : ∀ c ∈ cut, (∀ p ∈ c, p.1 ∈ as) ∧ (c.map (·.1)).Pairwise (ltX eNm) ∧ c.length ≤ 1000) (hp : cut.Pairwise (ltX (eCond true))) (hl : cut.length ≤ 1000) : F_is_cut [eSpot b as, eCut true cut] = some (.bool true, []) := by
  have t : isOf ["tuple"] (eCut true cut) = some true := by rw [isOf_tuple]; rfl
  have i : items (eCut true cut) = some (cut.map (eCond true)) := rfl
  have a := is_asc_F (enc_cond true) (fun x i z => by cases z) true cut hp hl
  simp only [F_is_cut, f_is_cut]
  simp [fVar_ap, fC_ap, fTup_ap, fLst_ap, fOp_ap, fB_ap, fCall_ap, fAnd_ap, fOr_ap, fNot_ap, fIf_ap, fV_ap, fAndV_ap, fOrV_ap, fL_ap, fDisp_ap, fSeq_ap, fEnum_ap, fZip_ap, gSh_ap, gTupF_ap, fLc_ap, fYes_ap, fNil_ap, fThen_ap, fAsg_ap, fOwn_ap, fAsgT_ap, fRet_ap, fRetF_ap, fRetN_ap, fBk_ap, fCt_ap, fDrop_ap, fIfS_ap, fFor_ap, fCallD_ap, fG1_ap, fIsi_ap, fSl_ap, fSlF_ap, fD_ap, fOwnD_ap, fDc_ap, fT_ap, fOrT_ap, fAndT_ap, fOrF_ap, storeD_ap, fPut_ap, fCallO_ap, fCallL_ap, appD_ap, fApp_ap, fDg_ap, fNegI_ap, fPar_ap, fCallKw_ap, fChain_ap, fGet2_ap, fGet1_ap, fWalk_ap, fNotT_ap, fNotV_ap, fG1F_ap, fOpF_ap, fCallF_ap, runD_ap, runO_ap, Option.bind_assoc, loopF_nil, loopF_cons, loopLc_nil, loopLc_cons, loopW_succ, items_list, items_tuple, items_sq, tupD_list, tupD_tuple, tupD_sq, lenD_list, lenD_tuple, lenD_sq, intD_int, intD_bool, absD_int, truD_none, truD_bool, truD_int, truD_list, truD_tuple, truD_sq, gIx_int, asB_bool, g1_one, g1L_one, g2i_two, gInt_two, res_d, res_bor, fz_d, fz_bor, andThen_nx, andThen_rt, andThen_ro, andThen_bk, andThen_ct, again_nx, again_ct, again_bk, again_rt, again_ro, ended_rt, ended_nx, ended_ro, endedO_ro, fzs, eA, ress, outsOf, argsD, setOuts, gsCons, gsNil, argEnv, wipeE, restE, turnLc, maxD, minD, plus_int, sub_int, int_eq, int_ne, int_lt, int_le, int_gt, int_ge, oNone, oSome, pick, atI_0, atI_1, atI_2, t, i, lookup_F]
  apply lc_all_k (φ := fun _ => .bool true)
  · intro c hm
    obtain ⟨h1, h2, h3⟩ := h c hm
    simp [fVar_ap, fC_ap, fTup_ap, fLst_ap, fOp_ap, fB_ap, fCall_ap, fAnd_ap, fOr_ap, fNot_ap, fIf_ap, fV_ap, fAndV_ap, fOrV_ap, fL_ap, fDisp_ap, fSeq_ap, fEnum_ap, fZip_ap, gSh_ap, gTupF_ap, fLc_ap, fYes_ap, fNil_ap, fThen_ap, fAsg_ap, fOwn_ap, fAsgT_ap, fRet_ap, fRetF_ap, fRetN_ap, fBk_ap, fCt_ap, fDrop_ap, fIfS_ap, fFor_ap, fCallD_ap, fG1_ap, fIsi_ap, fSl_ap, fSlF_ap, fD_ap, fOwnD_ap, fDc_ap, fT_ap, fOrT_ap, fAndT_ap, fOrF_ap, storeD_ap, fPut_ap, fCallO_ap, fCallL_ap, appD_ap, fApp_ap, fDg_ap, fNegI_ap, fPar_ap, fCallKw_ap, fChain_ap, fGet2_ap, fGet1_ap, fWalk_ap, fNotT_ap, fNotV_ap, fG1F_ap, fOpF_ap, fCallF_ap, runD_ap, runO_ap, Option.bind_assoc, loopF_nil, loopF_cons, loopLc_nil, loopLc_cons, loopW_succ, items_list, items_tuple, items_sq, tupD_list, tupD_tuple, tupD_sq, lenD_list, lenD_tuple, lenD_sq, intD_int, intD_bool, absD_int, truD_none, truD_bool, truD_int, truD_list, truD_tuple, truD_sq, gIx_int, asB_bool, g1_one, g1L_one, g2i_two, gInt_two, res_d, res_bor, fz_d, fz_bor, andThen_nx, andThen_rt, andThen_ro, andThen_bk, andThen_ct, again_nx, again_ct, again_bk, again_rt, again_ro, ended_rt, ended_nx, ended_ro, endedO_ro, fzs, eA, ress, outsOf, argsD, setOuts, gsCons, gsNil, argEnv, wipeE, restE, turnLc, maxD, minD, plus_int, sub_int, int_eq, int_ne, int_lt, int_le, int_gt, int_ge, oNone, oSome, pick, atI_0, atI_1, atI_2, is_condition_over_F as c h1 h2 h3]
  · have := all_map (fun _ : Cond => true) cut
    have e : sq true (cut.map (eCond true)) = eCut true cut := rfl
    rw [e] at a
    simp [fVar_ap, fC_ap, fTup_ap, fLst_ap, fOp_ap, fB_ap, fCall_ap, fAnd_ap, fOr_ap, fNot_ap, fIf_ap, fV_ap, fAndV_ap, fOrV_ap, fL_ap, fDisp_ap, fSeq_ap, fEnum_ap, fZip_ap, gSh_ap, gTupF_ap, fLc_ap, fYes_ap, fNil_ap, fThen_ap, fAsg_ap, fOwn_ap, fAsgT_ap, fRet_ap, fRetF_ap, fRetN_ap, fBk_ap, fCt_ap, fDrop_ap, fIfS_ap, fFor_ap, fCallD_ap, fG1_ap, fIsi_ap, fSl_ap, fSlF_ap, fD_ap, fOwnD_ap, fDc_ap, fT_ap, fOrT_ap, fAndT_ap, fOrF_ap, storeD_ap, fPut_ap, fCallO_ap, fCallL_ap, appD_ap, fApp_ap, fDg_ap, fNegI_ap, fPar_ap, fCallKw_ap, fChain_ap, fGet2_ap, fGet1_ap, fWalk_ap, fNotT_ap, fNotV_ap, fG1F_ap, fOpF_ap, fCallF_ap, runD_ap, runO_ap, Option.bind_assoc, loopF_nil, loopF_cons, loopLc_nil, loopLc_cons, loopW_succ, items_list, items_tuple, items_sq, tupD_list, tupD_tuple, tupD_sq, lenD_list, lenD_tuple, lenD_sq, intD_int, intD_bool, absD_int, truD_none, truD_bool, truD_int, truD_list, truD_tuple, truD_sq, gIx_int, asB_bool, g1_one, g1L_one, g2i_two, gInt_two, res_d, res_bor, fz_d, fz_bor, andThen_nx, andThen_rt, andThen_ro, andThen_bk, andThen_ct, again_nx, again_ct, again_bk, again_rt, again_ro, ended_rt, ended_nx, ended_ro, endedO_ro, fzs, eA, ress, outsOf, argsD, setOuts, gsCons, gsNil, argEnv, wipeE, restE, turnLc, maxD, minD, plus_int, sub_int, int_eq, int_ne, int_lt, int_le, int_gt, int_ge, oNone, oSome, pick, atI_0, atI_1, atI_2, this, a]
end K03

set_option Elab.async false
set_option linter.all false
set_option maxRecDepth 100000
set_option maxHeartbeats 1000000
namespace L2.Lp
open PySem L2
theorem mul_int {i j : Int} (h : CMul i j) : gMul (.int i) (.int j) = some (.int (i * j)) := by
  show (if CMul i j then _ else none) = _
  rw [if_pos h]
theorem div_int {i j : Int} (h : CDivW i j) : gDiv (.int i) (.int j) = some (.int (i / j)) := by
  show (if CDivW i j then _ else none) = _
  rw [if_pos h]
theorem divW {x n : Int} (h : 0 < n) (h2 : n < 4294967296) : CDivW x n := ⟨h, by
  have : n.natAbs < 4294967296 := by omega
  have := Nat.log2_lt (n := n.natAbs) (k := 33) (by omega)
  omega⟩
theorem mulR {i j : Int} (h : -4294967296 < j) (h2 : j < 4294967296) : CMul i j := .inr ⟨by omega, by omega⟩
theorem mulL {i j : Int} (h : -4294967296 < i) (h2 : i < 4294967296) : CMul i j := .inl ⟨by omega, by omega⟩
theorem put_0 (a b c d : PyData) : putD (.list [a, b, c]) (.int 0) d = some (.list [d, b, c]) := rfl
theorem put_2 (a b c d : PyData) : putD (.list [a, b, c]) (.int 2) d = some (.list [a, b, d]) := rfl
/-- what draws come from: three numbers, the last counts -/
def Box (m : Nat) (d : PyData) : Prop := ∃ x y z : Int, d = .list [.int x, .int y, .int z] ∧ 0 ≤ z ∧ z ≤ m
theorem Box.more {m n : Nat} {d : PyData} (h : Box m d) (k : m ≤ n) : Box n d := by
  obtain ⟨x, y, z, e, h1, h2⟩ := h
  exact ⟨x, y, z, e, h1, by omega⟩
end L2.Lp
namespace K03
open L2.Lp Lnd
open PySem (PyData Str)
theorem take_pos (x y z n : Int) (hx : 0 < x) (hn : 0 < n) (hn2 : n < 4294967296) : F__law_take [.list [.int x, .int y, .int z], .int n] = some (.int (x % n), [.list [.int (x / n), .int y, .int z]]) := by
  simp only [F__law_take, f__law_take]
  simp [fVar_ap, fC_ap, fTup_ap, fLst_ap, fOp_ap, fB_ap, fCall_ap, fAnd_ap, fOr_ap, fNot_ap, fIf_ap, fV_ap, fAndV_ap, fOrV_ap, fL_ap, fDisp_ap, fSeq_ap, fEnum_ap, fZip_ap, gSh_ap, gTupF_ap, fLc_ap, fYes_ap, fNil_ap, fThen_ap, fAsg_ap, fOwn_ap, fAsgT_ap, fRet_ap, fRetF_ap, fRetN_ap, fBk_ap, fCt_ap, fDrop_ap, fIfS_ap, fFor_ap, fCallD_ap, fG1_ap, fIsi_ap, fSl_ap, fSlF_ap, fD_ap, fOwnD_ap, fDc_ap, fT_ap, fOrT_ap, fAndT_ap, fOrF_ap, storeD_ap, fPut_ap, fCallO_ap, fCallL_ap, appD_ap, fApp_ap, fDg_ap, fNegI_ap, fPar_ap, fCallKw_ap, fChain_ap, fGet2_ap, fGet1_ap, fWalk_ap, fNotT_ap, fNotV_ap, fG1F_ap, fOpF_ap, fCallF_ap, runD_ap, runO_ap, Option.bind_assoc, loopF_nil, loopF_cons, loopLc_nil, loopLc_cons, loopW_succ, items_list, items_tuple, items_sq, tupD_list, tupD_tuple, tupD_sq, lenD_list, lenD_tuple, lenD_sq, intD_int, intD_bool, absD_int, truD_none, truD_bool, truD_int, truD_list, truD_tuple, truD_sq, gIx_int, asB_bool, g1_one, g1L_one, g2i_two, gInt_two, res_d, res_bor, fz_d, fz_bor, andThen_nx, andThen_rt, andThen_ro, andThen_bk, andThen_ct, again_nx, again_ct, again_bk, again_rt, again_ro, ended_rt, ended_nx, ended_ro, endedO_ro, fzs, eA, ress, outsOf, argsD, setOuts, gsCons, gsNil, argEnv, wipeE, restE, turnLc, maxD, minD, plus_int, sub_int, int_eq, int_ne, int_lt, int_le, int_gt, int_ge, oNone, oSome, pick, atI_0, atI_1, atI_2, hx, mod_int hn, div_int (divW hn hn2), muAt, put_0]
theorem take_zero (x y z n : Int) (hx : ¬ 0 < x) (hz : 0 ≤ z) (hz2 : z < 1000000) (hn : 0 < n) (hn2 : n < 4294967296) : ∃ r, F__law_take [.list [.int x, .int y, .int z], .int n] = some (.int r, [.list [.int x, .int y, .int (z + 1)]]) ∧ 0 ≤ r ∧ r < n := by
  refine ⟨?r, ?h, ?a, ?b⟩
  case h =>
    have m1 := mul_int (i := 48271) (j := z + 1) (mulL (by omega) (by omega))
    have m2 := mul_int (i := y + 48271 * (z + 1)) (j := 39373 + (z + 1)) (mulR (by omega) (by omega))
    have d1 := div_int (i := y) (j := 1000003) (divW (by omega) (by omega))
    have b1 : 0 ≤ (y + 48271 * (z + 1)) * (39373 + (z + 1)) % 2147483647 % 40009 ∧ (y + 48271 * (z + 1)) * (39373 + (z + 1)) % 2147483647 % 40009 < 40009 := ⟨Int.emod_nonneg _ (by omega), Int.emod_lt_of_pos _ (by omega)⟩
    have m3 := mul_int (i := (y + 48271 * (z + 1)) * (39373 + (z + 1)) % 2147483647 + (z + 1) + y / 1000003) (j := (y + 48271 * (z + 1)) * (39373 + (z + 1)) % 2147483647 % 40009 + 7) (mulR (by omega) (by omega))
    have m4 : ∀ a : Int, gMul (.int a) (.int 48271) = some (.int (a * 48271)) := fun a => mul_int (mulR (by omega) (by omega))
    have d2 : ∀ a : Int, gDiv (.int a) (.int 64) = some (.int (a / 64)) := fun a => div_int (divW (by omega) (by omega))
    have r1 : ∀ a : Int, gMod (.int a) (.int 2147483647) = some (.int (a % 2147483647)) := fun a => mod_int (by omega)
    have r2 : ∀ a : Int, gMod (.int a) (.int 40009) = some (.int (a % 40009)) := fun a => mod_int (by omega)
    have r3 : ∀ a : Int, gMod (.int a) (.int 2147483629) = some (.int (a % 2147483629)) := fun a => mod_int (by omega)
    have r4 : ∀ a : Int, gMod (.int a) (.int 2147483587) = some (.int (a % 2147483587)) := fun a => mod_int (by omega)
    have r5 : ∀ a : Int, gMod (.int a) (.int n) = some (.int (a % n)) := fun a => mod_int hn
    simp only [F__law_take, f__law_take]
    simp [fVar_ap, fC_ap, fTup_ap, fLst_ap, fOp_ap, fB_ap, fCall_ap, fAnd_ap, fOr_ap, fNot_ap, fIf_ap, fV_ap, fAndV_ap, fOrV_ap, fL_ap, fDisp_ap, fSeq_ap, fEnum_ap, fZip_ap, gSh_ap, gTupF_ap, fLc_ap, fYes_ap, fNil_ap, fThen_ap, fAsg_ap, fOwn_ap, fAsgT_ap, fRet_ap, fRetF_ap, fRetN_ap, fBk_ap, fCt_ap, fDrop_ap, fIfS_ap, fFor_ap, fCallD_ap, fG1_ap, fIsi_ap, fSl_ap, fSlF_ap, fD_ap, fOwnD_ap, fDc_ap, fT_ap, fOrT_ap, fAndT_ap, fOrF_ap, storeD_ap, fPut_ap, fCallO_ap, fCallL_ap, appD_ap, fApp_ap, fDg_ap, fNegI_ap, fPar_ap, fCallKw_ap, fChain_ap, fGet2_ap, fGet1_ap, fWalk_ap, fNotT_ap, fNotV_ap, fG1F_ap, fOpF_ap, fCallF_ap, runD_ap, runO_ap, Option.bind_assoc, loopF_nil, loopF_cons, loopLc_nil, loopLc_cons, loopW_succ, items_list, items_tuple, items_sq, tupD_list, tupD_tuple, tupD_sq, lenD_list, lenD_tuple, lenD_sq, intD_int, intD_bool, absD_int, truD_none, truD_bool, truD_int, truD_list, truD_tuple, truD_sq, gIx_int, asB_bool, g1_one, g1L_one, g2i_two, gInt_two, res_d, res_bor, fz_d, fz_bor, andThen_nx, andThen_rt, andThen_ro, andThen_bk, andThen_ct, again_nx, again_ct, again_bk, again_rt, again_ro, ended_rt, ended_nx, ended_ro, endedO_ro, fzs, eA, ress, outsOf, argsD, setOuts, gsCons, gsNil, argEnv, wipeE, restE, turnLc, maxD, minD, plus_int, sub_int, int_eq, int_ne, int_lt, int_le, int_gt, int_ge, oNone, oSome, pick, atI_0, atI_1, atI_2, hx, muAt, put_2, m1, m2, d1, m3, m4, d2, r1, r2, r3, r4, r5]
    rfl
  case a => exact Int.emod_nonneg _ (by omega)
  case b => exact Int.emod_lt_of_pos _ hn
/-- whatever the box holds, a draw below n is one of 0 .. n - 1, and the box stays a box -/
theorem take_F {m : Nat} {b : PyData} (h : Box m b) (hm : m < 1000000) {n : Int} (hn : 0 < n) (hn2 : n < 4294967296) : ∃ (r : Nat) (b' : PyData), F__law_take [b, .int n] = some (.int r, [b']) ∧ (r : Int) < n ∧ Box (m + 1) b' := by
  obtain ⟨x, y, z, rfl, h1, h2⟩ := h
  by_cases hx : 0 < x
  · have a := Int.emod_nonneg x (show n ≠ 0 by omega)
    have c := Int.emod_lt_of_pos x hn
    have t : (((x % n).toNat : Nat) : Int) = x % n := by omega
    exact ⟨(x % n).toNat, _, by rw [t]; exact take_pos x y z n hx hn hn2, by omega, _, _, z, rfl, h1, by omega⟩
  · obtain ⟨r, e, a, c⟩ := take_zero x y z n hx h1 (by omega) hn hn2
    have t : ((r.toNat : Nat) : Int) = r := by omega
    exact ⟨r.toNat, _, by rw [t]; exact e, by omega, _, _, z + 1, rfl, by omega, by omega⟩
theorem of_F {m : Nat} {b : PyData} (h : Box m b) (hm : m < 1000000) (s : Bool) (ds : List PyData) (h1 : 0 < ds.length) (h2 : ds.length < 1000000) : ∃ (i : Nat) (hi : i < ds.length) (b' : PyData), F__law_of [b, sq s ds] = some (ds[i], [b']) ∧ Box (m + 1) b' := by
  obtain ⟨r, b', e, hr, hb⟩ := take_F h hm (n := ds.length) (by omega) (by omega)
  have ha := atI_map (fun d : PyData => d) ds r (by omega)
  rw [List.map_id'] at ha
  refine ⟨r, by omega, b', ?_, hb⟩
  simp only [F__law_of, f__law_of]
  simp [fVar_ap, fC_ap, fTup_ap, fLst_ap, fOp_ap, fB_ap, fCall_ap, fAnd_ap, fOr_ap, fNot_ap, fIf_ap, fV_ap, fAndV_ap, fOrV_ap, fL_ap, fDisp_ap, fSeq_ap, fEnum_ap, fZip_ap, gSh_ap, gTupF_ap, fLc_ap, fYes_ap, fNil_ap, fThen_ap, fAsg_ap, fOwn_ap, fAsgT_ap, fRet_ap, fRetF_ap, fRetN_ap, fBk_ap, fCt_ap, fDrop_ap, fIfS_ap, fFor_ap, fCallD_ap, fG1_ap, fIsi_ap, fSl_ap, fSlF_ap, fD_ap, fOwnD_ap, fDc_ap, fT_ap, fOrT_ap, fAndT_ap, fOrF_ap, storeD_ap, fPut_ap, fCallO_ap, fCallL_ap, appD_ap, fApp_ap, fDg_ap, fNegI_ap, fPar_ap, fCallKw_ap, fChain_ap, fGet2_ap, fGet1_ap, fWalk_ap, fNotT_ap, fNotV_ap, fG1F_ap, fOpF_ap, fCallF_ap, runD_ap, runO_ap, Option.bind_assoc, loopF_nil, loopF_cons, loopLc_nil, loopLc_cons, loopW_succ, items_list, items_tuple, items_sq, tupD_list, tupD_tuple, tupD_sq, lenD_list, lenD_tuple, lenD_sq, intD_int, intD_bool, absD_int, truD_none, truD_bool, truD_int, truD_list, truD_tuple, truD_sq, gIx_int, asB_bool, g1_one, g1L_one, g2i_two, gInt_two, res_d, res_bor, fz_d, fz_bor, andThen_nx, andThen_rt, andThen_ro, andThen_bk, andThen_ct, again_nx, again_ct, again_bk, again_rt, again_ro, ended_rt, ended_nx, ended_ro, endedO_ro, fzs, eA, ress, outsOf, argsD, setOuts, gsCons, gsNil, argEnv, wipeE, restE, turnLc, maxD, minD, plus_int, sub_int, int_eq, int_ne, int_lt, int_le, int_gt, int_ge, oNone, oSome, pick, atI_0, atI_1, atI_2, e, ha]
/-- a condition that is drawn names areas in their order -/
theorem clause_F {m : Nat} {b : PyData} (h : Box m b) (hm : m + 100 < 1000000) (s : Bool) (as : List Nm) (hl : as.length ≤ 50) : ∃ (c : Cond) (b' : PyData), F__law_clause [b, eSpot s as] = some (eCond true c, [b']) ∧ (c.map (·.1)).Sublist as ∧ Box (m + as.length) b' := by
  simp only [F__law_clause, f__law_clause, eSpot]
  simp [fVar_ap, fC_ap, fTup_ap, fLst_ap, fOp_ap, fB_ap, fCall_ap, fAnd_ap, fOr_ap, fNot_ap, fIf_ap, fV_ap, fAndV_ap, fOrV_ap, fL_ap, fDisp_ap, fSeq_ap, fEnum_ap, fZip_ap, gSh_ap, gTupF_ap, fLc_ap, fYes_ap, fNil_ap, fThen_ap, fAsg_ap, fOwn_ap, fAsgT_ap, fRet_ap, fRetF_ap, fRetN_ap, fBk_ap, fCt_ap, fDrop_ap, fIfS_ap, fFor_ap, fCallD_ap, fG1_ap, fIsi_ap, fSl_ap, fSlF_ap, fD_ap, fOwnD_ap, fDc_ap, fT_ap, fOrT_ap, fAndT_ap, fOrF_ap, storeD_ap, fPut_ap, fCallO_ap, fCallL_ap, appD_ap, fApp_ap, fDg_ap, fNegI_ap, fPar_ap, fCallKw_ap, fChain_ap, fGet2_ap, fGet1_ap, fWalk_ap, fNotT_ap, fNotV_ap, fG1F_ap, fOpF_ap, fCallF_ap, runD_ap, runO_ap, Option.bind_assoc, loopF_nil, loopF_cons, loopLc_nil, loopLc_cons, loopW_succ, items_list, items_tuple, items_sq, tupD_list, tupD_tuple, tupD_sq, lenD_list, lenD_tuple, lenD_sq, intD_int, intD_bool, absD_int, truD_none, truD_bool, truD_int, truD_list, truD_tuple, truD_sq, gIx_int, asB_bool, g1_one, g1L_one, g2i_two, gInt_two, res_d, res_bor, fz_d, fz_bor, andThen_nx, andThen_rt, andThen_ro, andThen_bk, andThen_ct, again_nx, again_ct, again_bk, again_rt, again_ro, ended_rt, ended_nx, ended_ro, endedO_ro, fzs, eA, ress, outsOf, argsD, setOuts, gsCons, gsNil, argEnv, wipeE, restE, turnLc, maxD, minD, plus_int, sub_int, int_eq, int_ne, int_lt, int_le, int_gt, int_ge, oNone, oSome, pick, atI_0, atI_1, atI_2]
  apply lc_state_k (C := fun o => ∃ c b', o = some (eCond true c, [b']) ∧ (c.map (·.1)).Sublist as ∧ Box (m + as.length) b') (I := fun pre out env => ∃ (ws : List (Nm × Nat)) (b' : PyData), out = ws.map (fun w => .tuple [eNm w.1, .int w.2]) ∧ ws.map (·.1) = pre ∧ env = [Sl.mu true b', Sl.sh (sq s (as.map eNm)), Sl.no, Sl.no, Sl.no] ∧ Box (m + pre.length) b')
  · exact ⟨[], b, rfl, rfl, rfl, h⟩
  · rintro pre x post out env e ⟨ws, b', rfl, rfl, rfl, hb⟩
    have hpl : ws.length + 1 + post.length = as.length := by
      rw [← e]
      simp
      omega
    obtain ⟨r, b2, e2, hr, hb2⟩ := take_F hb (by simp; omega) (n := 4) (by decide) (by decide)
    refine ⟨some (.tuple [eNm x, .int r]), [Sl.mu true b2, Sl.sh (sq s (as.map eNm)), Sl.no, Sl.no, Sl.no], ?_, ws ++ [(x, r)], b2, by simp, by simp, rfl, by simpa [Nat.add_assoc] using hb2⟩
    simp [fVar_ap, fC_ap, fTup_ap, fLst_ap, fOp_ap, fB_ap, fCall_ap, fAnd_ap, fOr_ap, fNot_ap, fIf_ap, fV_ap, fAndV_ap, fOrV_ap, fL_ap, fDisp_ap, fSeq_ap, fEnum_ap, fZip_ap, gSh_ap, gTupF_ap, fLc_ap, fYes_ap, fNil_ap, fThen_ap, fAsg_ap, fOwn_ap, fAsgT_ap, fRet_ap, fRetF_ap, fRetN_ap, fBk_ap, fCt_ap, fDrop_ap, fIfS_ap, fFor_ap, fCallD_ap, fG1_ap, fIsi_ap, fSl_ap, fSlF_ap, fD_ap, fOwnD_ap, fDc_ap, fT_ap, fOrT_ap, fAndT_ap, fOrF_ap, storeD_ap, fPut_ap, fCallO_ap, fCallL_ap, appD_ap, fApp_ap, fDg_ap, fNegI_ap, fPar_ap, fCallKw_ap, fChain_ap, fGet2_ap, fGet1_ap, fWalk_ap, fNotT_ap, fNotV_ap, fG1F_ap, fOpF_ap, fCallF_ap, runD_ap, runO_ap, Option.bind_assoc, loopF_nil, loopF_cons, loopLc_nil, loopLc_cons, loopW_succ, items_list, items_tuple, items_sq, tupD_list, tupD_tuple, tupD_sq, lenD_list, lenD_tuple, lenD_sq, intD_int, intD_bool, absD_int, truD_none, truD_bool, truD_int, truD_list, truD_tuple, truD_sq, gIx_int, asB_bool, g1_one, g1L_one, g2i_two, gInt_two, res_d, res_bor, fz_d, fz_bor, andThen_nx, andThen_rt, andThen_ro, andThen_bk, andThen_ct, again_nx, again_ct, again_bk, again_rt, again_ro, ended_rt, ended_nx, ended_ro, endedO_ro, fzs, eA, ress, outsOf, argsD, setOuts, gsCons, gsNil, argEnv, wipeE, restE, turnLc, maxD, minD, plus_int, sub_int, int_eq, int_ne, int_lt, int_le, int_gt, int_ge, oNone, oSome, pick, atI_0, atI_1, atI_2, e2]
  · rintro outs env ⟨ws, b', rfl, hw, rfl, hb⟩
    refine ⟨(ws.filter fun w => decide (w.2 < 2)).map fun w => (w.1, decide (w.2 = 1)), b', ?_, ?_, hb⟩
    · simp [fVar_ap, fC_ap, fTup_ap, fLst_ap, fOp_ap, fB_ap, fCall_ap, fAnd_ap, fOr_ap, fNot_ap, fIf_ap, fV_ap, fAndV_ap, fOrV_ap, fL_ap, fDisp_ap, fSeq_ap, fEnum_ap, fZip_ap, gSh_ap, gTupF_ap, fLc_ap, fYes_ap, fNil_ap, fThen_ap, fAsg_ap, fOwn_ap, fAsgT_ap, fRet_ap, fRetF_ap, fRetN_ap, fBk_ap, fCt_ap, fDrop_ap, fIfS_ap, fFor_ap, fCallD_ap, fG1_ap, fIsi_ap, fSl_ap, fSlF_ap, fD_ap, fOwnD_ap, fDc_ap, fT_ap, fOrT_ap, fAndT_ap, fOrF_ap, storeD_ap, fPut_ap, fCallO_ap, fCallL_ap, appD_ap, fApp_ap, fDg_ap, fNegI_ap, fPar_ap, fCallKw_ap, fChain_ap, fGet2_ap, fGet1_ap, fWalk_ap, fNotT_ap, fNotV_ap, fG1F_ap, fOpF_ap, fCallF_ap, runD_ap, runO_ap, Option.bind_assoc, loopF_nil, loopF_cons, loopLc_nil, loopLc_cons, loopW_succ, items_list, items_tuple, items_sq, tupD_list, tupD_tuple, tupD_sq, lenD_list, lenD_tuple, lenD_sq, intD_int, intD_bool, absD_int, truD_none, truD_bool, truD_int, truD_list, truD_tuple, truD_sq, gIx_int, asB_bool, g1_one, g1L_one, g2i_two, gInt_two, res_d, res_bor, fz_d, fz_bor, andThen_nx, andThen_rt, andThen_ro, andThen_bk, andThen_ct, again_nx, again_ct, again_bk, again_rt, again_ro, ended_rt, ended_nx, ended_ro, endedO_ro, fzs, eA, ress, outsOf, argsD, setOuts, gsCons, gsNil, argEnv, wipeE, restE, turnLc, maxD, minD, plus_int, sub_int, int_eq, int_ne, int_lt, int_le, int_gt, int_ge, oNone, oSome, pick, atI_0, atI_1, atI_2]
      apply lc_if_k (τ := fun w => decide (w.2 < 2)) (φ := fun w => ePair true (w.1, decide (w.2 = 1)))
      · rintro ⟨u, v⟩ _ ht
        simp at ht
        have t1 : (v : Int) < 2 := by omega
        have t2 : ((v : Int) = 1) ↔ v = 1 := by omega
        simp [fVar_ap, fC_ap, fTup_ap, fLst_ap, fOp_ap, fB_ap, fCall_ap, fAnd_ap, fOr_ap, fNot_ap, fIf_ap, fV_ap, fAndV_ap, fOrV_ap, fL_ap, fDisp_ap, fSeq_ap, fEnum_ap, fZip_ap, gSh_ap, gTupF_ap, fLc_ap, fYes_ap, fNil_ap, fThen_ap, fAsg_ap, fOwn_ap, fAsgT_ap, fRet_ap, fRetF_ap, fRetN_ap, fBk_ap, fCt_ap, fDrop_ap, fIfS_ap, fFor_ap, fCallD_ap, fG1_ap, fIsi_ap, fSl_ap, fSlF_ap, fD_ap, fOwnD_ap, fDc_ap, fT_ap, fOrT_ap, fAndT_ap, fOrF_ap, storeD_ap, fPut_ap, fCallO_ap, fCallL_ap, appD_ap, fApp_ap, fDg_ap, fNegI_ap, fPar_ap, fCallKw_ap, fChain_ap, fGet2_ap, fGet1_ap, fWalk_ap, fNotT_ap, fNotV_ap, fG1F_ap, fOpF_ap, fCallF_ap, runD_ap, runO_ap, Option.bind_assoc, loopF_nil, loopF_cons, loopLc_nil, loopLc_cons, loopW_succ, items_list, items_tuple, items_sq, tupD_list, tupD_tuple, tupD_sq, lenD_list, lenD_tuple, lenD_sq, intD_int, intD_bool, absD_int, truD_none, truD_bool, truD_int, truD_list, truD_tuple, truD_sq, gIx_int, asB_bool, g1_one, g1L_one, g2i_two, gInt_two, res_d, res_bor, fz_d, fz_bor, andThen_nx, andThen_rt, andThen_ro, andThen_bk, andThen_ct, again_nx, again_ct, again_bk, again_rt, again_ro, ended_rt, ended_nx, ended_ro, endedO_ro, fzs, eA, ress, outsOf, argsD, setOuts, gsCons, gsNil, argEnv, wipeE, restE, turnLc, maxD, minD, plus_int, sub_int, int_eq, int_ne, int_lt, int_le, int_gt, int_ge, oNone, oSome, pick, atI_0, atI_1, atI_2, ht, t1, t2, ePair, eBool, sq]
      · rintro ⟨u, v⟩ _ ht
        simp at ht
        have t1 : ¬ (v : Int) < 2 := by omega
        simp [fVar_ap, fC_ap, fTup_ap, fLst_ap, fOp_ap, fB_ap, fCall_ap, fAnd_ap, fOr_ap, fNot_ap, fIf_ap, fV_ap, fAndV_ap, fOrV_ap, fL_ap, fDisp_ap, fSeq_ap, fEnum_ap, fZip_ap, gSh_ap, gTupF_ap, fLc_ap, fYes_ap, fNil_ap, fThen_ap, fAsg_ap, fOwn_ap, fAsgT_ap, fRet_ap, fRetF_ap, fRetN_ap, fBk_ap, fCt_ap, fDrop_ap, fIfS_ap, fFor_ap, fCallD_ap, fG1_ap, fIsi_ap, fSl_ap, fSlF_ap, fD_ap, fOwnD_ap, fDc_ap, fT_ap, fOrT_ap, fAndT_ap, fOrF_ap, storeD_ap, fPut_ap, fCallO_ap, fCallL_ap, appD_ap, fApp_ap, fDg_ap, fNegI_ap, fPar_ap, fCallKw_ap, fChain_ap, fGet2_ap, fGet1_ap, fWalk_ap, fNotT_ap, fNotV_ap, fG1F_ap, fOpF_ap, fCallF_ap, runD_ap, runO_ap, Option.bind_assoc, loopF_nil, loopF_cons, loopLc_nil, loopLc_cons, loopW_succ, items_list, items_tuple, items_sq, tupD_list, tupD_tuple, tupD_sq, lenD_list, lenD_tuple, lenD_sq, intD_int, intD_bool, absD_int, truD_none, truD_bool, truD_int, truD_list, truD_tuple, truD_sq, gIx_int, asB_bool, g1_one, g1L_one, g2i_two, gInt_two, res_d, res_bor, fz_d, fz_bor, andThen_nx, andThen_rt, andThen_ro, andThen_bk, andThen_ct, again_nx, again_ct, again_bk, again_rt, again_ro, ended_rt, ended_nx, ended_ro, endedO_ro, fzs, eA, ress, outsOf, argsD, setOuts, gsCons, gsNil, argEnv, wipeE, restE, turnLc, maxD, minD, plus_int, sub_int, int_eq, int_ne, int_lt, int_le, int_gt, int_ge, oNone, oSome, pick, atI_0, atI_1, atI_2, ht, t1]
      · simp [fVar_ap, fC_ap, fTup_ap, fLst_ap, fOp_ap, fB_ap, fCall_ap, fAnd_ap, fOr_ap, fNot_ap, fIf_ap, fV_ap, fAndV_ap, fOrV_ap, fL_ap, fDisp_ap, fSeq_ap, fEnum_ap, fZip_ap, gSh_ap, gTupF_ap, fLc_ap, fYes_ap, fNil_ap, fThen_ap, fAsg_ap, fOwn_ap, fAsgT_ap, fRet_ap, fRetF_ap, fRetN_ap, fBk_ap, fCt_ap, fDrop_ap, fIfS_ap, fFor_ap, fCallD_ap, fG1_ap, fIsi_ap, fSl_ap, fSlF_ap, fD_ap, fOwnD_ap, fDc_ap, fT_ap, fOrT_ap, fAndT_ap, fOrF_ap, storeD_ap, fPut_ap, fCallO_ap, fCallL_ap, appD_ap, fApp_ap, fDg_ap, fNegI_ap, fPar_ap, fCallKw_ap, fChain_ap, fGet2_ap, fGet1_ap, fWalk_ap, fNotT_ap, fNotV_ap, fG1F_ap, fOpF_ap, fCallF_ap, runD_ap, runO_ap, Option.bind_assoc, loopF_nil, loopF_cons, loopLc_nil, loopLc_cons, loopW_succ, items_list, items_tuple, items_sq, tupD_list, tupD_tuple, tupD_sq, lenD_list, lenD_tuple, lenD_sq, intD_int, intD_bool, absD_int, truD_none, truD_bool, truD_int, truD_list, truD_tuple, truD_sq, gIx_int, asB_bool, g1_one, g1L_one, g2i_two, gInt_two, res_d, res_bor, fz_d, fz_bor, andThen_nx, andThen_rt, andThen_ro, andThen_bk, andThen_ct, again_nx, again_ct, again_bk, again_rt, again_ro, ended_rt, ended_nx, ended_ro, endedO_ro, fzs, eA, ress, outsOf, argsD, setOuts, gsCons, gsNil, argEnv, wipeE, restE, turnLc, maxD, minD, plus_int, sub_int, int_eq, int_ne, int_lt, int_le, int_gt, int_ge, oNone, oSome, pick, atI_0, atI_1, atI_2, eCond, sq]
    · rw [← hw, List.map_map]
      exact (List.filter_sublist (l := ws)).map _
end K03

set_option Elab.async false
set_option linter.all false
set_option maxRecDepth 100000
set_option maxHeartbeats 1000000
namespace L2.Lp
open PySem L2
theorem rng1_nat {n : Nat} (h : n ≤ 16777216) : rng1 [.int n] = some ((List.range n).map fun i : Nat => .int (0 + (i : Nat))) := by
  show (if -(2 ^ 62) ≤ (n : Int) ∧ (n : Int) ≤ 16777216 then some (rangeD 0 (n : Int).toNat) else none) = _
  rw [if_pos ⟨by omega, by omega⟩, Int.toNat_natCast]
  rfl
end L2.Lp
namespace K03
open L2.Lp Lnd
open PySem (PyData Str)
theorem cond_tup (c : Cond) : isTup (eCond true c) = true := rfl
theorem cut_set (b : Bool) (cs : List Cond) (h : cs.length < 64) : sortSetD (sq b (cs.map (eCond true))) = some ((setX (eCond true) cs).map (eCond true)) := sortSet_tup (enc_cond true) rfl cond_tup (by decide) b cs h
theorem cut_F {m : Nat} {b : PyData} (h : Box m b) (most : Nat) (hm : m + 1000 < 1000000) (hk : most ≤ 8) (s : Bool) (as : List Nm) (hl : as.length ≤ 10) : ∃ (c : Cut) (b' : PyData), F__law_cut [b, eSpot s as, .int most] = some (eCut true c, [b']) ∧ (∀ x ∈ c, (x.map (·.1)).Sublist as) ∧ c.Pairwise (ltX (eCond true)) ∧ c.length ≤ most ∧ Box (m + 100) b' := by
  obtain ⟨r, b1, e1, hr, hb1⟩ := take_F h (by omega) (n := (most : Int) + 1) (by omega) (by omega)
  simp only [F__law_cut, f__law_cut]
  simp [fVar_ap, fC_ap, fTup_ap, fLst_ap, fOp_ap, fB_ap, fCall_ap, fAnd_ap, fOr_ap, fNot_ap, fIf_ap, fV_ap, fAndV_ap, fOrV_ap, fL_ap, fDisp_ap, fSeq_ap, fEnum_ap, fZip_ap, gSh_ap, gTupF_ap, fLc_ap, fYes_ap, fNil_ap, fThen_ap, fAsg_ap, fOwn_ap, fAsgT_ap, fRet_ap, fRetF_ap, fRetN_ap, fBk_ap, fCt_ap, fDrop_ap, fIfS_ap, fFor_ap, fCallD_ap, fG1_ap, fIsi_ap, fSl_ap, fSlF_ap, fD_ap, fOwnD_ap, fDc_ap, fT_ap, fOrT_ap, fAndT_ap, fOrF_ap, storeD_ap, fPut_ap, fCallO_ap, fCallL_ap, appD_ap, fApp_ap, fDg_ap, fNegI_ap, fPar_ap, fCallKw_ap, fChain_ap, fGet2_ap, fGet1_ap, fWalk_ap, fNotT_ap, fNotV_ap, fG1F_ap, fOpF_ap, fCallF_ap, runD_ap, runO_ap, Option.bind_assoc, loopF_nil, loopF_cons, loopLc_nil, loopLc_cons, loopW_succ, items_list, items_tuple, items_sq, tupD_list, tupD_tuple, tupD_sq, lenD_list, lenD_tuple, lenD_sq, intD_int, intD_bool, absD_int, truD_none, truD_bool, truD_int, truD_list, truD_tuple, truD_sq, gIx_int, asB_bool, g1_one, g1L_one, g2i_two, gInt_two, res_d, res_bor, fz_d, fz_bor, andThen_nx, andThen_rt, andThen_ro, andThen_bk, andThen_ct, again_nx, again_ct, again_bk, again_rt, again_ro, ended_rt, ended_nx, ended_ro, endedO_ro, fzs, eA, ress, outsOf, argsD, setOuts, gsCons, gsNil, argEnv, wipeE, restE, turnLc, maxD, minD, plus_int, sub_int, int_eq, int_ne, int_lt, int_le, int_gt, int_ge, oNone, oSome, pick, atI_0, atI_1, atI_2, e1, rng1_nat (n := r) (by omega)]
  apply lc_state_k (C := fun o => ∃ (c : Cut) (b' : PyData), o = some (eCut true c, [b']) ∧ (∀ x ∈ c, (x.map (·.1)).Sublist as) ∧ c.Pairwise (ltX (eCond true)) ∧ c.length ≤ most ∧ Box (m + 100) b') (I := fun pre out env => ∃ (cs : List Cond) (b' : PyData), out = cs.map (eCond true) ∧ cs.length = pre.length ∧ (∀ x ∈ cs, (x.map (·.1)).Sublist as) ∧ env = [Sl.mu true b', Sl.sh (eSpot s as), Sl.sh (.int most), Sl.no] ∧ Box (m + 1 + pre.length * 10) b')
  · exact ⟨[], b1, rfl, rfl, by simp, rfl, hb1⟩
  · rintro pre x post out env e ⟨cs, b', rfl, hc, hs, rfl, hb⟩
    have hpl : pre.length + 1 + post.length = r := by
      have := congrArg List.length e
      simp at this
      omega
    obtain ⟨c, b2, e2, hsub, hb2⟩ := clause_F hb (by omega) s as (by omega)
    refine ⟨some (eCond true c), [Sl.mu true b2, Sl.sh (eSpot s as), Sl.sh (.int most), Sl.no], ?_, cs ++ [c], b2, by simp, by simp [hc], ?_, rfl, hb2.more (by simp; omega)⟩
    · simp [fVar_ap, fC_ap, fTup_ap, fLst_ap, fOp_ap, fB_ap, fCall_ap, fAnd_ap, fOr_ap, fNot_ap, fIf_ap, fV_ap, fAndV_ap, fOrV_ap, fL_ap, fDisp_ap, fSeq_ap, fEnum_ap, fZip_ap, gSh_ap, gTupF_ap, fLc_ap, fYes_ap, fNil_ap, fThen_ap, fAsg_ap, fOwn_ap, fAsgT_ap, fRet_ap, fRetF_ap, fRetN_ap, fBk_ap, fCt_ap, fDrop_ap, fIfS_ap, fFor_ap, fCallD_ap, fG1_ap, fIsi_ap, fSl_ap, fSlF_ap, fD_ap, fOwnD_ap, fDc_ap, fT_ap, fOrT_ap, fAndT_ap, fOrF_ap, storeD_ap, fPut_ap, fCallO_ap, fCallL_ap, appD_ap, fApp_ap, fDg_ap, fNegI_ap, fPar_ap, fCallKw_ap, fChain_ap, fGet2_ap, fGet1_ap, fWalk_ap, fNotT_ap, fNotV_ap, fG1F_ap, fOpF_ap, fCallF_ap, runD_ap, runO_ap, Option.bind_assoc, loopF_nil, loopF_cons, loopLc_nil, loopLc_cons, loopW_succ, items_list, items_tuple, items_sq, tupD_list, tupD_tuple, tupD_sq, lenD_list, lenD_tuple, lenD_sq, intD_int, intD_bool, absD_int, truD_none, truD_bool, truD_int, truD_list, truD_tuple, truD_sq, gIx_int, asB_bool, g1_one, g1L_one, g2i_two, gInt_two, res_d, res_bor, fz_d, fz_bor, andThen_nx, andThen_rt, andThen_ro, andThen_bk, andThen_ct, again_nx, again_ct, again_bk, again_rt, again_ro, ended_rt, ended_nx, ended_ro, endedO_ro, fzs, eA, ress, outsOf, argsD, setOuts, gsCons, gsNil, argEnv, wipeE, restE, turnLc, maxD, minD, plus_int, sub_int, int_eq, int_ne, int_lt, int_le, int_gt, int_ge, oNone, oSome, pick, atI_0, atI_1, atI_2, e2]
    · intro x hx
      rcases List.mem_append.mp hx with hx | hx
      · exact hs x hx
      · simp at hx
        exact hx ▸ hsub
  · rintro outs env ⟨cs, b', rfl, hc, hs, rfl, hb⟩
    simp at hc hb
    refine ⟨setX (eCond true) cs, b', ?_, fun x hx => hs x (mem_setX.mp hx), setX_asc (enc_cond true) cs, ?_, hb.more (by omega)⟩
    · have q := cut_set false cs (by omega)
      simp only [sq] at q
      simp [fVar_ap, fC_ap, fTup_ap, fLst_ap, fOp_ap, fB_ap, fCall_ap, fAnd_ap, fOr_ap, fNot_ap, fIf_ap, fV_ap, fAndV_ap, fOrV_ap, fL_ap, fDisp_ap, fSeq_ap, fEnum_ap, fZip_ap, gSh_ap, gTupF_ap, fLc_ap, fYes_ap, fNil_ap, fThen_ap, fAsg_ap, fOwn_ap, fAsgT_ap, fRet_ap, fRetF_ap, fRetN_ap, fBk_ap, fCt_ap, fDrop_ap, fIfS_ap, fFor_ap, fCallD_ap, fG1_ap, fIsi_ap, fSl_ap, fSlF_ap, fD_ap, fOwnD_ap, fDc_ap, fT_ap, fOrT_ap, fAndT_ap, fOrF_ap, storeD_ap, fPut_ap, fCallO_ap, fCallL_ap, appD_ap, fApp_ap, fDg_ap, fNegI_ap, fPar_ap, fCallKw_ap, fChain_ap, fGet2_ap, fGet1_ap, fWalk_ap, fNotT_ap, fNotV_ap, fG1F_ap, fOpF_ap, fCallF_ap, runD_ap, runO_ap, Option.bind_assoc, loopF_nil, loopF_cons, loopLc_nil, loopLc_cons, loopW_succ, items_list, items_tuple, items_sq, tupD_list, tupD_tuple, tupD_sq, lenD_list, lenD_tuple, lenD_sq, intD_int, intD_bool, absD_int, truD_none, truD_bool, truD_int, truD_list, truD_tuple, truD_sq, gIx_int, asB_bool, g1_one, g1L_one, g2i_two, gInt_two, res_d, res_bor, fz_d, fz_bor, andThen_nx, andThen_rt, andThen_ro, andThen_bk, andThen_ct, again_nx, again_ct, again_bk, again_rt, again_ro, ended_rt, ended_nx, ended_ro, endedO_ro, fzs, eA, ress, outsOf, argsD, setOuts, gsCons, gsNil, argEnv, wipeE, restE, turnLc, maxD, minD, plus_int, sub_int, int_eq, int_ne, int_lt, int_le, int_gt, int_ge, oNone, oSome, pick, atI_0, atI_1, atI_2] at q ⊢
      simp [q, fVar_ap, fC_ap, fTup_ap, fLst_ap, fOp_ap, fB_ap, fCall_ap, fAnd_ap, fOr_ap, fNot_ap, fIf_ap, fV_ap, fAndV_ap, fOrV_ap, fL_ap, fDisp_ap, fSeq_ap, fEnum_ap, fZip_ap, gSh_ap, gTupF_ap, fLc_ap, fYes_ap, fNil_ap, fThen_ap, fAsg_ap, fOwn_ap, fAsgT_ap, fRet_ap, fRetF_ap, fRetN_ap, fBk_ap, fCt_ap, fDrop_ap, fIfS_ap, fFor_ap, fCallD_ap, fG1_ap, fIsi_ap, fSl_ap, fSlF_ap, fD_ap, fOwnD_ap, fDc_ap, fT_ap, fOrT_ap, fAndT_ap, fOrF_ap, storeD_ap, fPut_ap, fCallO_ap, fCallL_ap, appD_ap, fApp_ap, fDg_ap, fNegI_ap, fPar_ap, fCallKw_ap, fChain_ap, fGet2_ap, fGet1_ap, fWalk_ap, fNotT_ap, fNotV_ap, fG1F_ap, fOpF_ap, fCallF_ap, runD_ap, runO_ap, Option.bind_assoc, loopF_nil, loopF_cons, loopLc_nil, loopLc_cons, loopW_succ, items_list, items_tuple, items_sq, tupD_list, tupD_tuple, tupD_sq, lenD_list, lenD_tuple, lenD_sq, intD_int, intD_bool, absD_int, truD_none, truD_bool, truD_int, truD_list, truD_tuple, truD_sq, gIx_int, asB_bool, g1_one, g1L_one, g2i_two, gInt_two, res_d, res_bor, fz_d, fz_bor, andThen_nx, andThen_rt, andThen_ro, andThen_bk, andThen_ct, again_nx, again_ct, again_bk, again_rt, again_ro, ended_rt, ended_nx, ended_ro, endedO_ro, fzs, eA, ress, outsOf, argsD, setOuts, gsCons, gsNil, argEnv, wipeE, restE, turnLc, maxD, minD, plus_int, sub_int, int_eq, int_ne, int_lt, int_le, int_gt, int_ge, oNone, oSome, pick, atI_0, atI_1, atI_2, eCut, sq]
    · have := setX_len (enc := eCond true) cs
      omega
end K03

set_option Elab.async false
set_option linter.all false
set_option maxRecDepth 100000
set_option maxHeartbeats 1000000
namespace K03
open L2.Lp Lnd
open PySem (PyData Str)
def NMS : List Nm := [⟨"m", by decide +kernel⟩, ⟨"b", by decide +kernel⟩, ⟨"x", by decide +kernel⟩, ⟨"aa", by decide +kernel⟩, ⟨"k", by decide +kernel⟩]
theorem nms_list : PyData.list [.str (Str.ofString "m"), .str (Str.ofString "b"), .str (Str.ofString "x"), .str (Str.ofString "aa"), .str (Str.ofString "k")] = sq false (NMS.map eNm) := rfl
theorem nms_nodup : NMS.Nodup := by decide +kernel
theorem nm_not (x : Nm) : isTup (eNm x) = false := rfl
theorem chart_F {m : Nat} {b : PyData} (h : Box m b) (hm : m + 1000 < 1000000) (many : Nat) (hk : many ≤ 5) : ∃ (ch : Chart) (b' : PyData), F__law_chart [b, .int many] = some (eChart true ch, [b']) ∧ Ok ch ∧ ch.1.length ≤ many ∧ (∀ x ∈ ch.2, (x.map (·.1)).Sublist ch.1) ∧ ch.2.Pairwise (ltX (eCond true)) ∧ ch.2.length ≤ 3 ∧ Box (m + 100) b' := by
  obtain ⟨i, hi, b1, e1, hb1⟩ := of_F h (by omega) false [.int 0, .int 0, .int 0, .int 0, .int 1, .int 2, .int 3, .int 4] (by simp) (by simp)
  have hv : ∀ d ∈ [PyData.int 0, .int 0, .int 0, .int 0, .int 1, .int 2, .int 3, .int 4], ∃ v : Nat, v ≤ 4 ∧ d = .int v := by
    intro d hd
    simp at hd
    rcases hd with rfl | rfl | rfl | rfl | rfl
    · exact ⟨0, by omega, rfl⟩
    · exact ⟨1, by omega, rfl⟩
    · exact ⟨2, by omega, rfl⟩
    · exact ⟨3, by omega, rfl⟩
    · exact ⟨4, by omega, rfl⟩
  obtain ⟨v, hv4, ev⟩ := hv _ (List.getElem_mem hi)
  rw [ev] at e1
  simp only [sq, Bool.false_eq_true, if_false] at e1
  have mx : g2i (fun i j => if j > i then j else i) [.int 0, .int ((many : Int) - v)] = some (.int ((many - v : Nat) : Int)) := by
    show some (PyData.int (if (many : Int) - v > 0 then (many : Int) - v else 0)) = _
    congr 2
    split <;> omega
  have sl := slice_to (b := false) (ds := NMS.map eNm) (k := many - v) (by simp [NMS]; omega)
  rw [← nms_list] at sl
  have so := sorted_enc enc_nm (.inr nm_not) (NMS.take (many - v))
  rw [List.map_take] at so
  simp only [sq, Bool.false_eq_true, if_false] at sl
  generalize hA : sortX eNm (NMS.take (many - v)) = as at so
  have al : as.length ≤ many := by
    rw [← hA]
    unfold sortX
    rw [len_isort_]
    simp
    omega
  have au : as.Pairwise (ltX eNm) := by
    rw [← hA]
    exact sortX_asc enc_nm (nms_nodup.sublist (List.take_sublist _ _))
  obtain ⟨r, b2, e2, hr, hb2⟩ := take_F hb1 (by omega) (n := 4) (by decide) (by decide)
  have el : PyData.list (as.map eNm) = eSpot false as := rfl
  simp only [F__law_chart, f__law_chart]
  simp [fVar_ap, fC_ap, fTup_ap, fLst_ap, fOp_ap, fB_ap, fCall_ap, fAnd_ap, fOr_ap, fNot_ap, fIf_ap, fV_ap, fAndV_ap, fOrV_ap, fL_ap, fDisp_ap, fSeq_ap, fEnum_ap, fZip_ap, gSh_ap, gTupF_ap, fLc_ap, fYes_ap, fNil_ap, fThen_ap, fAsg_ap, fOwn_ap, fAsgT_ap, fRet_ap, fRetF_ap, fRetN_ap, fBk_ap, fCt_ap, fDrop_ap, fIfS_ap, fFor_ap, fCallD_ap, fG1_ap, fIsi_ap, fSl_ap, fSlF_ap, fD_ap, fOwnD_ap, fDc_ap, fT_ap, fOrT_ap, fAndT_ap, fOrF_ap, storeD_ap, fPut_ap, fCallO_ap, fCallL_ap, appD_ap, fApp_ap, fDg_ap, fNegI_ap, fPar_ap, fCallKw_ap, fChain_ap, fGet2_ap, fGet1_ap, fWalk_ap, fNotT_ap, fNotV_ap, fG1F_ap, fOpF_ap, fCallF_ap, runD_ap, runO_ap, Option.bind_assoc, loopF_nil, loopF_cons, loopLc_nil, loopLc_cons, loopW_succ, items_list, items_tuple, items_sq, tupD_list, tupD_tuple, tupD_sq, lenD_list, lenD_tuple, lenD_sq, intD_int, intD_bool, absD_int, truD_none, truD_bool, truD_int, truD_list, truD_tuple, truD_sq, gIx_int, asB_bool, g1_one, g1L_one, g2i_two, gInt_two, res_d, res_bor, fz_d, fz_bor, andThen_nx, andThen_rt, andThen_ro, andThen_bk, andThen_ct, again_nx, again_ct, again_bk, again_rt, again_ro, ended_rt, ended_nx, ended_ro, endedO_ro, fzs, eA, ress, outsOf, argsD, setOuts, gsCons, gsNil, argEnv, wipeE, restE, turnLc, maxD, minD, plus_int, sub_int, int_eq, int_ne, int_lt, int_le, int_gt, int_ge, oNone, oSome, pick, atI_0, atI_1, atI_2, maxD, e1, mx, sl, so, el, e2, rng1_nat (n := r) (by omega)]
  apply lc_state_k (C := fun o => ∃ (x : List Nm) (y : Cut) (b' : PyData), o = some (eChart true (x, y), [b']) ∧ Ok (x, y) ∧ x.length ≤ many ∧ (∀ z ∈ y, (z.map (·.1)).Sublist x) ∧ y.Pairwise (ltX (eCond true)) ∧ y.length ≤ 3 ∧ Box (m + 100) b') (I := fun pre out env => ∃ (cs : List Cond) (b' : PyData), out = cs.map (eCond true) ∧ cs.length = pre.length ∧ (∀ x ∈ cs, (x.map (·.1)).Sublist as) ∧ env = [Sl.mu true b', Sl.sh (.int many), Sl.sh (eSpot false as), Sl.no, Sl.no, Sl.no] ∧ Box (m + 2 + pre.length * 10) b')
  · exact ⟨[], b2, rfl, rfl, by simp, rfl, hb2⟩
  · rintro pre x post out env e ⟨cs, b', rfl, hc, hs, rfl, hb⟩
    have hpl : pre.length + 1 + post.length = r := by
      have := congrArg List.length e
      simp at this
      omega
    obtain ⟨c, b2, e2, hsub, hb2⟩ := clause_F hb (by omega) false as (by omega)
    refine ⟨some (eCond true c), [Sl.mu true b2, Sl.sh (.int many), Sl.sh (eSpot false as), Sl.no, Sl.no, Sl.no], ?_, cs ++ [c], b2, by simp, by simp [hc], ?_, rfl, hb2.more (by simp; omega)⟩
    · simp [fVar_ap, fC_ap, fTup_ap, fLst_ap, fOp_ap, fB_ap, fCall_ap, fAnd_ap, fOr_ap, fNot_ap, fIf_ap, fV_ap, fAndV_ap, fOrV_ap, fL_ap, fDisp_ap, fSeq_ap, fEnum_ap, fZip_ap, gSh_ap, gTupF_ap, fLc_ap, fYes_ap, fNil_ap, fThen_ap, fAsg_ap, fOwn_ap, fAsgT_ap, fRet_ap, fRetF_ap, fRetN_ap, fBk_ap, fCt_ap, fDrop_ap, fIfS_ap, fFor_ap, fCallD_ap, fG1_ap, fIsi_ap, fSl_ap, fSlF_ap, fD_ap, fOwnD_ap, fDc_ap, fT_ap, fOrT_ap, fAndT_ap, fOrF_ap, storeD_ap, fPut_ap, fCallO_ap, fCallL_ap, appD_ap, fApp_ap, fDg_ap, fNegI_ap, fPar_ap, fCallKw_ap, fChain_ap, fGet2_ap, fGet1_ap, fWalk_ap, fNotT_ap, fNotV_ap, fG1F_ap, fOpF_ap, fCallF_ap, runD_ap, runO_ap, Option.bind_assoc, loopF_nil, loopF_cons, loopLc_nil, loopLc_cons, loopW_succ, items_list, items_tuple, items_sq, tupD_list, tupD_tuple, tupD_sq, lenD_list, lenD_tuple, lenD_sq, intD_int, intD_bool, absD_int, truD_none, truD_bool, truD_int, truD_list, truD_tuple, truD_sq, gIx_int, asB_bool, g1_one, g1L_one, g2i_two, gInt_two, res_d, res_bor, fz_d, fz_bor, andThen_nx, andThen_rt, andThen_ro, andThen_bk, andThen_ct, again_nx, again_ct, again_bk, again_rt, again_ro, ended_rt, ended_nx, ended_ro, endedO_ro, fzs, eA, ress, outsOf, argsD, setOuts, gsCons, gsNil, argEnv, wipeE, restE, turnLc, maxD, minD, plus_int, sub_int, int_eq, int_ne, int_lt, int_le, int_gt, int_ge, oNone, oSome, pick, atI_0, atI_1, atI_2, e2]
    · intro x hx
      rcases List.mem_append.mp hx with hx | hx
      · exact hs x hx
      · simp at hx
        exact hx ▸ hsub
  · rintro outs env ⟨cs, b3, rfl, hc, hs, rfl, hb⟩
    simp at hc hb
    simp [fVar_ap, fC_ap, fTup_ap, fLst_ap, fOp_ap, fB_ap, fCall_ap, fAnd_ap, fOr_ap, fNot_ap, fIf_ap, fV_ap, fAndV_ap, fOrV_ap, fL_ap, fDisp_ap, fSeq_ap, fEnum_ap, fZip_ap, gSh_ap, gTupF_ap, fLc_ap, fYes_ap, fNil_ap, fThen_ap, fAsg_ap, fOwn_ap, fAsgT_ap, fRet_ap, fRetF_ap, fRetN_ap, fBk_ap, fCt_ap, fDrop_ap, fIfS_ap, fFor_ap, fCallD_ap, fG1_ap, fIsi_ap, fSl_ap, fSlF_ap, fD_ap, fOwnD_ap, fDc_ap, fT_ap, fOrT_ap, fAndT_ap, fOrF_ap, storeD_ap, fPut_ap, fCallO_ap, fCallL_ap, appD_ap, fApp_ap, fDg_ap, fNegI_ap, fPar_ap, fCallKw_ap, fChain_ap, fGet2_ap, fGet1_ap, fWalk_ap, fNotT_ap, fNotV_ap, fG1F_ap, fOpF_ap, fCallF_ap, runD_ap, runO_ap, Option.bind_assoc, loopF_nil, loopF_cons, loopLc_nil, loopLc_cons, loopW_succ, items_list, items_tuple, items_sq, tupD_list, tupD_tuple, tupD_sq, lenD_list, lenD_tuple, lenD_sq, intD_int, intD_bool, absD_int, truD_none, truD_bool, truD_int, truD_list, truD_tuple, truD_sq, gIx_int, asB_bool, g1_one, g1L_one, g2i_two, gInt_two, res_d, res_bor, fz_d, fz_bor, andThen_nx, andThen_rt, andThen_ro, andThen_bk, andThen_ct, again_nx, again_ct, again_bk, again_rt, again_ro, ended_rt, ended_nx, ended_ro, endedO_ro, fzs, eA, ress, outsOf, argsD, setOuts, gsCons, gsNil, argEnv, wipeE, restE, turnLc, maxD, minD, plus_int, sub_int, int_eq, int_ne, int_lt, int_le, int_gt, int_ge, oNone, oSome, pick, atI_0, atI_1, atI_2]
    apply lc_state_k (C := fun o => ∃ (x : List Nm) (y : Cut) (b' : PyData), o = some (eChart true (x, y), [b']) ∧ Ok (x, y) ∧ x.length ≤ many ∧ (∀ z ∈ y, (z.map (·.1)).Sublist x) ∧ y.Pairwise (ltX (eCond true)) ∧ y.length ≤ 3 ∧ Box (m + 100) b') (I := fun pre out env => ∃ (ds : List Cond) (b' : PyData), out = ds.map (eCond true) ∧ ds.Sublist pre ∧ env = [Sl.mu true b', Sl.sh (.int many), Sl.sh (eSpot false as), Sl.sh (.list (cs.map (eCond true))), Sl.no, Sl.no] ∧ Box (m + 2 + r * 10 + pre.length) b')
    · exact ⟨[], b3, rfl, List.Sublist.refl _, rfl, hb.more (by omega)⟩
    · rintro pre x post out env e ⟨ds, b', rfl, hd, rfl, hb⟩
      have hpl : pre.length + 1 + post.length = r := by
        rw [← hc, ← e]
        simp
        omega
      obtain ⟨j, hj, b4, e4, hb4⟩ := of_F hb (by omega) false [.int 2, .int 2, .int 2, .int 2, .int 1, .int 0] (by simp) (by simp)
      have hw : ∀ d ∈ [PyData.int 2, .int 2, .int 2, .int 2, .int 1, .int 0], ∃ v : Int, d = .int v := by
        intro d hd
        simp at hd
        rcases hd with rfl | rfl | rfl <;> exact ⟨_, rfl⟩
      obtain ⟨w, ew⟩ := hw _ (List.getElem_mem hj)
      rw [ew] at e4
      simp only [sq, Bool.false_eq_true, if_false] at e4
      have ln : lenD (eCond true x) = some (.int x.length) := by simp [eCond, lenD_sq]
      by_cases hx : w ≤ x.length
      · refine ⟨some (eCond true x), [Sl.mu true b4, Sl.sh (.int many), Sl.sh (eSpot false as), Sl.sh (.list (cs.map (eCond true))), Sl.no, Sl.no], ?_, ds ++ [x], b4, by simp, hd.append (List.Sublist.refl _), rfl, hb4.more (by simp; omega)⟩
        simp [fVar_ap, fC_ap, fTup_ap, fLst_ap, fOp_ap, fB_ap, fCall_ap, fAnd_ap, fOr_ap, fNot_ap, fIf_ap, fV_ap, fAndV_ap, fOrV_ap, fL_ap, fDisp_ap, fSeq_ap, fEnum_ap, fZip_ap, gSh_ap, gTupF_ap, fLc_ap, fYes_ap, fNil_ap, fThen_ap, fAsg_ap, fOwn_ap, fAsgT_ap, fRet_ap, fRetF_ap, fRetN_ap, fBk_ap, fCt_ap, fDrop_ap, fIfS_ap, fFor_ap, fCallD_ap, fG1_ap, fIsi_ap, fSl_ap, fSlF_ap, fD_ap, fOwnD_ap, fDc_ap, fT_ap, fOrT_ap, fAndT_ap, fOrF_ap, storeD_ap, fPut_ap, fCallO_ap, fCallL_ap, appD_ap, fApp_ap, fDg_ap, fNegI_ap, fPar_ap, fCallKw_ap, fChain_ap, fGet2_ap, fGet1_ap, fWalk_ap, fNotT_ap, fNotV_ap, fG1F_ap, fOpF_ap, fCallF_ap, runD_ap, runO_ap, Option.bind_assoc, loopF_nil, loopF_cons, loopLc_nil, loopLc_cons, loopW_succ, items_list, items_tuple, items_sq, tupD_list, tupD_tuple, tupD_sq, lenD_list, lenD_tuple, lenD_sq, intD_int, intD_bool, absD_int, truD_none, truD_bool, truD_int, truD_list, truD_tuple, truD_sq, gIx_int, asB_bool, g1_one, g1L_one, g2i_two, gInt_two, res_d, res_bor, fz_d, fz_bor, andThen_nx, andThen_rt, andThen_ro, andThen_bk, andThen_ct, again_nx, again_ct, again_bk, again_rt, again_ro, ended_rt, ended_nx, ended_ro, endedO_ro, fzs, eA, ress, outsOf, argsD, setOuts, gsCons, gsNil, argEnv, wipeE, restE, turnLc, maxD, minD, plus_int, sub_int, int_eq, int_ne, int_lt, int_le, int_gt, int_ge, oNone, oSome, pick, atI_0, atI_1, atI_2, e4, ln, hx]
      · refine ⟨none, [Sl.mu true b4, Sl.sh (.int many), Sl.sh (eSpot false as), Sl.sh (.list (cs.map (eCond true))), Sl.no, Sl.no], ?_, ds, b4, by simp, hd.trans (List.sublist_append_left _ _), rfl, hb4.more (by simp; omega)⟩
        simp [fVar_ap, fC_ap, fTup_ap, fLst_ap, fOp_ap, fB_ap, fCall_ap, fAnd_ap, fOr_ap, fNot_ap, fIf_ap, fV_ap, fAndV_ap, fOrV_ap, fL_ap, fDisp_ap, fSeq_ap, fEnum_ap, fZip_ap, gSh_ap, gTupF_ap, fLc_ap, fYes_ap, fNil_ap, fThen_ap, fAsg_ap, fOwn_ap, fAsgT_ap, fRet_ap, fRetF_ap, fRetN_ap, fBk_ap, fCt_ap, fDrop_ap, fIfS_ap, fFor_ap, fCallD_ap, fG1_ap, fIsi_ap, fSl_ap, fSlF_ap, fD_ap, fOwnD_ap, fDc_ap, fT_ap, fOrT_ap, fAndT_ap, fOrF_ap, storeD_ap, fPut_ap, fCallO_ap, fCallL_ap, appD_ap, fApp_ap, fDg_ap, fNegI_ap, fPar_ap, fCallKw_ap, fChain_ap, fGet2_ap, fGet1_ap, fWalk_ap, fNotT_ap, fNotV_ap, fG1F_ap, fOpF_ap, fCallF_ap, runD_ap, runO_ap, Option.bind_assoc, loopF_nil, loopF_cons, loopLc_nil, loopLc_cons, loopW_succ, items_list, items_tuple, items_sq, tupD_list, tupD_tuple, tupD_sq, lenD_list, lenD_tuple, lenD_sq, intD_int, intD_bool, absD_int, truD_none, truD_bool, truD_int, truD_list, truD_tuple, truD_sq, gIx_int, asB_bool, g1_one, g1L_one, g2i_two, gInt_two, res_d, res_bor, fz_d, fz_bor, andThen_nx, andThen_rt, andThen_ro, andThen_bk, andThen_ct, again_nx, again_ct, again_bk, again_rt, again_ro, ended_rt, ended_nx, ended_ro, endedO_ro, fzs, eA, ress, outsOf, argsD, setOuts, gsCons, gsNil, argEnv, wipeE, restE, turnLc, maxD, minD, plus_int, sub_int, int_eq, int_ne, int_lt, int_le, int_gt, int_ge, oNone, oSome, pick, atI_0, atI_1, atI_2, e4, ln, hx]
    · rintro outs env ⟨ds, b5, rfl, hd, rfl, hb⟩
      have dl := hd.length_le
      have q := cut_set false ds (by omega)
      simp only [sq, Bool.false_eq_true, if_false] at q
      have sl := setX_len (enc := eCond true) ds
      refine ⟨as, setX (eCond true) ds, b5, ?_, ⟨au, by show as.length ≤ 6; omega⟩, al, fun x hx => hs x (hd.subset (mem_setX.mp hx)), setX_asc (enc_cond true) ds, by omega, hb.more (by omega)⟩
      simp [fVar_ap, fC_ap, fTup_ap, fLst_ap, fOp_ap, fB_ap, fCall_ap, fAnd_ap, fOr_ap, fNot_ap, fIf_ap, fV_ap, fAndV_ap, fOrV_ap, fL_ap, fDisp_ap, fSeq_ap, fEnum_ap, fZip_ap, gSh_ap, gTupF_ap, fLc_ap, fYes_ap, fNil_ap, fThen_ap, fAsg_ap, fOwn_ap, fAsgT_ap, fRet_ap, fRetF_ap, fRetN_ap, fBk_ap, fCt_ap, fDrop_ap, fIfS_ap, fFor_ap, fCallD_ap, fG1_ap, fIsi_ap, fSl_ap, fSlF_ap, fD_ap, fOwnD_ap, fDc_ap, fT_ap, fOrT_ap, fAndT_ap, fOrF_ap, storeD_ap, fPut_ap, fCallO_ap, fCallL_ap, appD_ap, fApp_ap, fDg_ap, fNegI_ap, fPar_ap, fCallKw_ap, fChain_ap, fGet2_ap, fGet1_ap, fWalk_ap, fNotT_ap, fNotV_ap, fG1F_ap, fOpF_ap, fCallF_ap, runD_ap, runO_ap, Option.bind_assoc, loopF_nil, loopF_cons, loopLc_nil, loopLc_cons, loopW_succ, items_list, items_tuple, items_sq, tupD_list, tupD_tuple, tupD_sq, lenD_list, lenD_tuple, lenD_sq, intD_int, intD_bool, absD_int, truD_none, truD_bool, truD_int, truD_list, truD_tuple, truD_sq, gIx_int, asB_bool, g1_one, g1L_one, g2i_two, gInt_two, res_d, res_bor, fz_d, fz_bor, andThen_nx, andThen_rt, andThen_ro, andThen_bk, andThen_ct, again_nx, again_ct, again_bk, again_rt, again_ro, ended_rt, ended_nx, ended_ro, endedO_ro, fzs, eA, ress, outsOf, argsD, setOuts, gsCons, gsNil, argEnv, wipeE, restE, turnLc, maxD, minD, plus_int, sub_int, int_eq, int_ne, int_lt, int_le, int_gt, int_ge, oNone, oSome, pick, atI_0, atI_1, atI_2, q, eSpot, sq, eChart, eCut]
end K03

set_option Elab.async false
set_option linter.all false
set_option maxRecDepth 100000
set_option maxHeartbeats 1000000
namespace K03
open L2.Lp Lnd
open PySem (PyData Str)
theorem pair_lt (a : Nm) : ltX (ePair true) (a, false) (a, true) := by
  show PySem.W.dataLt (.tuple [.str a.s, .bool false]) (.tuple [.str a.s, .bool true]) = true
  rw [PySem.W.dataLt_pair (by simp [PySem.W.alike]) (by simp [PySem.W.alike])]
  simp [PyData.eqv, PySem.W.dataLt_bool, PyProof.Rows.b2i]
theorem cond_lt (c : Cond) (a : Nm) (x y : Cond) : ltX (eCond true) (c ++ (a, false) :: x) (c ++ (a, true) :: y) := by
  show PySem.W.dataLt (.tuple _) (.tuple _) = true
  rw [PySem.W.dataLt_tuple]
  induction c with
  | nil =>
    have al : PySem.W.alike (ePair true (a, false)) (ePair true (a, true)) = true := has_alike _ _ _ ((enc_pair true).has _) ((enc_pair true).has _)
    have ne : PyData.eqv (ePair true (a, false)) (ePair true (a, true)) = false := by simp [ePair, sq, eNm, eBool, PyData.eqv, PyData.eqvAll]
    simp only [List.nil_append, List.map_cons]
    rw [PySem.W.dataLt_cons al, ne]
    exact pair_lt a
  | cons p c ih =>
    have al : PySem.W.alike (ePair true p) (ePair true p) = true := has_alike _ _ _ ((enc_pair true).has _) ((enc_pair true).has _)
    simp only [List.cons_append, List.map_cons]
    rw [PySem.W.dataLt_cons al, PySem.W.eqv_refl_alike _ al]
    exact ih
theorem toL_nm (x : Nm) : toL (eNm x) = eNm x := rfl
theorem toL_spot (b : Bool) (s : Spot) : toL (eSpot b s) = eSpot false s := by
  unfold eSpot
  rw [toL_sq, List.map_map]
  rfl
theorem toL_pair (b : Bool) (p : Nm × Bool) : toL (ePair b p) = ePair false p := by
  unfold ePair
  rw [toL_sq]
  rfl
theorem toL_cond (b : Bool) (c : Cond) : toL (eCond b c) = eCond false c := by
  unfold eCond
  rw [toL_sq, List.map_map]
  congr 2
  funext x
  exact toL_pair b x
theorem toL_cut (b : Bool) (c : Cut) : toL (eCut b c) = eCut false c := by
  unfold eCut
  rw [toL_sq, List.map_map]
  congr 2
  funext x
  exact toL_cond b x
theorem toL_land (b : Bool) (c : List Spot) : toL (eLand b c) = eLand false c := by
  unfold eLand
  rw [toL_sq, List.map_map]
  congr 2
  funext x
  exact toL_spot b x
theorem toL_chart (b : Bool) (c : Chart) : toL (eChart b c) = eChart false c := by
  unfold eChart
  rw [toL_sq]
  simp [toL_spot, toL_cut]
theorem dep_sq (b : Bool) (ds : List PyData) : (sq b ds).depth = PyData.depthAll ds + 1 := by cases b <;> simp [sq, PyData.depth]
theorem dep_chart (b : Bool) (c : Chart) : (eChart b c).depth ≤ 4 := by
  have h1 := dep_of (enc_spot b) c.1
  have h2 := dep_of (enc_cut b) c.2
  have t1 : (Ty.seq b .str).dep = 1 := rfl
  have t2 : (Ty.seq b (.seq b (.row b [.str, .bool]))).dep = 3 := rfl
  unfold eChart
  rw [dep_sq]
  simp only [PyData.depthAll]
  omega
theorem part_facts {ch : Chart} (h : Ok ch) (land : List Spot) : (∀ c ∈ part (letT ch) land ch.1 [], (∀ p ∈ c, p.1 ∈ ch.1) ∧ (c.map (·.1)).Pairwise (ltX eNm) ∧ c.length ≤ 6) ∧ (part (letT ch) land ch.1 []).Pairwise (ltX (eCond true)) ∧ (part (letT ch) land ch.1 []).length ≤ 64 := by
  have h6 := h.few
  refine ⟨fun c hc => ?_, part_up (ltX (eCond true)) cond_lt _ _, ?_⟩
  · obtain ⟨e, he, n, hn⟩ := part_pre _ _ c hc
    simp only [List.nil_append] at he
    subst he
    refine ⟨fun p hp => ?_, ?_, ?_⟩
    · have : p.1 ∈ c.map (·.1) := List.mem_map.mpr ⟨p, hp, rfl⟩
      rw [hn] at this
      exact List.mem_of_mem_take this
    · rw [hn]
      exact h.up.sublist (List.take_sublist _ _)
    · have := congrArg List.length hn
      simp at this
      omega
  · have h1 := part_len (letT ch) land ch.1 []
    have h2 : 2 ^ ch.1.length ≤ 2 ^ 6 := Nat.pow_le_pow_right (by decide) h6
    omega
theorem eq_land (b : Bool) (x y : List Spot) : gEq (eLand b x) (eLand b y) = some (.bool (decide (x = y))) := eq_enc (enc_land b) x y
theorem ne_land (b : Bool) (x y : List Spot) : gNe (eLand b x) (eLand b y) = some (.bool (!decide (x = y))) := ne_enc (enc_land b) x y
theorem case_right_F (ch : Chart) (land : List Spot) (h : Ok ch) (hl : land = (letT ch).filter fun s => decide (s ∈ land)) : F__law_case_right [eChart true ch, eLand true land] = some (.bool true, []) := by
  have h6 := h.few
  obtain ⟨f1, f2, f3⟩ := part_facts h land
  have hland := land_part (let_nodup h) (let_told h) hl
  have hless : ∀ l c m, part (letT ch) land ch.1 [] = l ++ c :: m → landT (letT ch) (l ++ m) ≠ land := fun l c m e => land_less e
  have p1 := plain_cut_F true true ch land h
  have p2 := plain_cut_F false false ch land h
  have l1 := lists_F 8 (eChart true ch) (by have := dep_chart true ch; omega)
  have l2 := lists_F 8 (eLand true land) (by have := dep_of (enc_land true) land; have d2 : (Ty.seq true (.seq true .str)).dep = 2 := rfl; omega)
  rw [toL_chart] at l1
  rw [toL_land] at l2
  have q := law_parted_F (letT ch) land (let_nodup h) ch.1 8 [] (by omega) (by simp; omega) (let_told h)
  have k0 : (letT ch).filter (fun s => keepsT s []) = letT ch := by
    rw [List.filter_eq_self]
    intro s _
    rfl
  have e0 : eCond true [] = .tuple [] := rfl
  rw [k0, e0] at q
  have ll := law_let_F ch (by omega)
  have hc : items (eChart true ch) = some [eSpot true ch.1, eCut true ch.2] := rfl
  have so := sorted_enc (enc_cond true) (.inl cond_tup) (part (letT ch) land ch.1 [])
  rw [sortX_up f2] at so
  have lof : ∀ cut : Cut, F_land_of [eChart true ch, eCut true cut] = some (eLand true (landT (letT ch) cut), []) := fun cut => land_of_F true true ch cut (by omega)
  generalize hP : part (letT ch) land ch.1 [] = due at *
  have sm := same_F 8 (.list [eCut true due, eCut true due]) (by
    have := dep_of (enc_cut true) due
    have t2 : (Ty.seq true (.seq true (.row true [.str, .bool]))).dep = 3 := rfl
    simp only [PyData.depth, PyData.depthAll]
    omega) (by simp [PyData.canLay0, PyData.canLayAll0, can_of (enc_cut true)])
  have ic := is_cut_F true ch.1 due (fun c hc => ⟨(f1 c hc).1, (f1 c hc).2.1, by have := (f1 c hc).2.2; omega⟩) f2 (by omega)
  have et : PyData.tuple (due.map (eCond true)) = eCut true due := rfl
  have ld : lenD (eCut true due) = some (.int due.length) := by simp [eCut, lenD_sq]
  simp only [F__law_case_right, f__law_case_right]
  simp [fVar_ap, fC_ap, fTup_ap, fLst_ap, fOp_ap, fB_ap, fCall_ap, fAnd_ap, fOr_ap, fNot_ap, fIf_ap, fV_ap, fAndV_ap, fOrV_ap, fL_ap, fDisp_ap, fSeq_ap, fEnum_ap, fZip_ap, gSh_ap, gTupF_ap, fLc_ap, fYes_ap, fNil_ap, fThen_ap, fAsg_ap, fOwn_ap, fAsgT_ap, fRet_ap, fRetF_ap, fRetN_ap, fBk_ap, fCt_ap, fDrop_ap, fIfS_ap, fFor_ap, fCallD_ap, fG1_ap, fIsi_ap, fSl_ap, fSlF_ap, fD_ap, fOwnD_ap, fDc_ap, fT_ap, fOrT_ap, fAndT_ap, fOrF_ap, storeD_ap, fPut_ap, fCallO_ap, fCallL_ap, appD_ap, fApp_ap, fDg_ap, fNegI_ap, fPar_ap, fCallKw_ap, fChain_ap, fGet2_ap, fGet1_ap, fWalk_ap, fNotT_ap, fNotV_ap, fG1F_ap, fOpF_ap, fCallF_ap, runD_ap, runO_ap, Option.bind_assoc, loopF_nil, loopF_cons, loopLc_nil, loopLc_cons, loopW_succ, items_list, items_tuple, items_sq, tupD_list, tupD_tuple, tupD_sq, lenD_list, lenD_tuple, lenD_sq, intD_int, intD_bool, absD_int, truD_none, truD_bool, truD_int, truD_list, truD_tuple, truD_sq, gIx_int, asB_bool, g1_one, g1L_one, g2i_two, gInt_two, res_d, res_bor, fz_d, fz_bor, andThen_nx, andThen_rt, andThen_ro, andThen_bk, andThen_ct, again_nx, again_ct, again_bk, again_rt, again_ro, ended_rt, ended_nx, ended_ro, endedO_ro, fzs, eA, ress, outsOf, argsD, setOuts, gsCons, gsNil, argEnv, wipeE, restE, turnLc, maxD, minD, plus_int, sub_int, int_eq, int_ne, int_lt, int_le, int_gt, int_ge, oNone, oSome, pick, atI_0, atI_1, atI_2, hc, ll, q, so, et, p1, p2, l1, l2, sm, ic, lof, hland, ne_land]
  have turn : ∀ k : Nat, k < due.length → ∀ x, ∃ o, (gSh 4 (.int (k : Int)) [Sl.sh (eChart true ch), Sl.sh (eLand true land), Sl.sh (eCut true due), Sl.sh (.list [eCut true due, eCut true due]), x]).bind (fIfS (fB (fOp gEq (fCallD [false, false] F_land_of [fVar 0, fOp gPlus (fSl (fVar 2) oNone (oSome (fVar 4))) (fSl (fVar 2) (oSome (fOp gPlus (fVar 4) (fC (.int 1)))) oNone)]) (fVar 1))) (fRet (fC (.bool false))) fNil) = some o ∧ ((fun _ : Nat => false) k = true → ∃ e, o = .rt (.bool false) e ∧ ∃ x, e = [Sl.sh (eChart true ch), Sl.sh (eLand true land), Sl.sh (eCut true due), Sl.sh (.list [eCut true due, eCut true due]), x]) ∧ ((fun _ : Nat => false) k = false → ∃ e, o = .nx e ∧ ∃ x, e = [Sl.sh (eChart true ch), Sl.sh (eLand true land), Sl.sh (eCut true due), Sl.sh (.list [eCut true due, eCut true due]), x]) := by
    intro k hk x
    have s1 : sliceD (eCut true due) none (some (k : Int)) = some (eCut true (due.take k)) := by
      have := slice_to (b := true) (ds := due.map (eCond true)) (k := k) (by simp; omega)
      rw [← List.map_take] at this
      exact this
    have s2 : sliceD (eCut true due) (some ((k : Int) + 1)) none = some (eCut true (due.drop (k + 1))) := by
      have := slice_from (b := true) (ds := due.map (eCond true)) (k := k + 1) (by simp; omega)
      rw [← List.map_drop] at this
      exact this
    have s3 : gPlus (eCut true (due.take k)) (eCut true (due.drop (k + 1))) = some (eCut true (due.take k ++ due.drop (k + 1))) := by
      unfold eCut sq
      rw [if_pos rfl, if_pos rfl, plus_tup (by simp; omega)]
      simp
    have ne := hless (due.take k) due[k] (due.drop (k + 1)) (by rw [List.getElem_cons_drop, List.take_append_drop])
    refine ⟨.nx [Sl.sh (eChart true ch), Sl.sh (eLand true land), Sl.sh (eCut true due), Sl.sh (.list [eCut true due, eCut true due]), .sh (.int k)], ?_, by simp, fun _ => ⟨_, rfl, _, rfl⟩⟩
    simp [fVar_ap, fC_ap, fTup_ap, fLst_ap, fOp_ap, fB_ap, fCall_ap, fAnd_ap, fOr_ap, fNot_ap, fIf_ap, fV_ap, fAndV_ap, fOrV_ap, fL_ap, fDisp_ap, fSeq_ap, fEnum_ap, fZip_ap, gSh_ap, gTupF_ap, fLc_ap, fYes_ap, fNil_ap, fThen_ap, fAsg_ap, fOwn_ap, fAsgT_ap, fRet_ap, fRetF_ap, fRetN_ap, fBk_ap, fCt_ap, fDrop_ap, fIfS_ap, fFor_ap, fCallD_ap, fG1_ap, fIsi_ap, fSl_ap, fSlF_ap, fD_ap, fOwnD_ap, fDc_ap, fT_ap, fOrT_ap, fAndT_ap, fOrF_ap, storeD_ap, fPut_ap, fCallO_ap, fCallL_ap, appD_ap, fApp_ap, fDg_ap, fNegI_ap, fPar_ap, fCallKw_ap, fChain_ap, fGet2_ap, fGet1_ap, fWalk_ap, fNotT_ap, fNotV_ap, fG1F_ap, fOpF_ap, fCallF_ap, runD_ap, runO_ap, Option.bind_assoc, loopF_nil, loopF_cons, loopLc_nil, loopLc_cons, loopW_succ, items_list, items_tuple, items_sq, tupD_list, tupD_tuple, tupD_sq, lenD_list, lenD_tuple, lenD_sq, intD_int, intD_bool, absD_int, truD_none, truD_bool, truD_int, truD_list, truD_tuple, truD_sq, gIx_int, asB_bool, g1_one, g1L_one, g2i_two, gInt_two, res_d, res_bor, fz_d, fz_bor, andThen_nx, andThen_rt, andThen_ro, andThen_bk, andThen_ct, again_nx, again_ct, again_bk, again_rt, again_ro, ended_rt, ended_nx, ended_ro, endedO_ro, fzs, eA, ress, outsOf, argsD, setOuts, gsCons, gsNil, argEnv, wipeE, restE, turnLc, maxD, minD, plus_int, sub_int, int_eq, int_ne, int_lt, int_le, int_gt, int_ge, oNone, oSome, pick, atI_0, atI_1, atI_2, s1, s2, s3, lof, eq_land, ne]
  by_cases h8 : due.length < 8
  · have h8' : (due.length : Int) < 8 := by omega
    simp [fVar_ap, fC_ap, fTup_ap, fLst_ap, fOp_ap, fB_ap, fCall_ap, fAnd_ap, fOr_ap, fNot_ap, fIf_ap, fV_ap, fAndV_ap, fOrV_ap, fL_ap, fDisp_ap, fSeq_ap, fEnum_ap, fZip_ap, gSh_ap, gTupF_ap, fLc_ap, fYes_ap, fNil_ap, fThen_ap, fAsg_ap, fOwn_ap, fAsgT_ap, fRet_ap, fRetF_ap, fRetN_ap, fBk_ap, fCt_ap, fDrop_ap, fIfS_ap, fFor_ap, fCallD_ap, fG1_ap, fIsi_ap, fSl_ap, fSlF_ap, fD_ap, fOwnD_ap, fDc_ap, fT_ap, fOrT_ap, fAndT_ap, fOrF_ap, storeD_ap, fPut_ap, fCallO_ap, fCallL_ap, appD_ap, fApp_ap, fDg_ap, fNegI_ap, fPar_ap, fCallKw_ap, fChain_ap, fGet2_ap, fGet1_ap, fWalk_ap, fNotT_ap, fNotV_ap, fG1F_ap, fOpF_ap, fCallF_ap, runD_ap, runO_ap, Option.bind_assoc, loopF_nil, loopF_cons, loopLc_nil, loopLc_cons, loopW_succ, items_list, items_tuple, items_sq, tupD_list, tupD_tuple, tupD_sq, lenD_list, lenD_tuple, lenD_sq, intD_int, intD_bool, absD_int, truD_none, truD_bool, truD_int, truD_list, truD_tuple, truD_sq, gIx_int, asB_bool, g1_one, g1L_one, g2i_two, gInt_two, res_d, res_bor, fz_d, fz_bor, andThen_nx, andThen_rt, andThen_ro, andThen_bk, andThen_ct, again_nx, again_ct, again_bk, again_rt, again_ro, ended_rt, ended_nx, ended_ro, endedO_ro, fzs, eA, ress, outsOf, argsD, setOuts, gsCons, gsNil, argEnv, wipeE, restE, turnLc, maxD, minD, plus_int, sub_int, int_eq, int_ne, int_lt, int_le, int_gt, int_ge, oNone, oSome, pick, atI_0, atI_1, atI_2, ld, h8', rng1_nat (n := due.length) (by omega)]
    apply loop_any_k (p := fun _ => false) (dd := .bool false) (I := fun env => ∃ x, env = [Sl.sh (eChart true ch), Sl.sh (eLand true land), Sl.sh (eCut true due), Sl.sh (.list [eCut true due, eCut true due]), x]) ⟨_, rfl⟩
    · rintro k hk env ⟨x, rfl⟩
      exact turn k (List.mem_range.mp hk) x
    · intro z
      simp at z
    · rintro _ e ⟨x, rfl⟩
      simp [fVar_ap, fC_ap, fTup_ap, fLst_ap, fOp_ap, fB_ap, fCall_ap, fAnd_ap, fOr_ap, fNot_ap, fIf_ap, fV_ap, fAndV_ap, fOrV_ap, fL_ap, fDisp_ap, fSeq_ap, fEnum_ap, fZip_ap, gSh_ap, gTupF_ap, fLc_ap, fYes_ap, fNil_ap, fThen_ap, fAsg_ap, fOwn_ap, fAsgT_ap, fRet_ap, fRetF_ap, fRetN_ap, fBk_ap, fCt_ap, fDrop_ap, fIfS_ap, fFor_ap, fCallD_ap, fG1_ap, fIsi_ap, fSl_ap, fSlF_ap, fD_ap, fOwnD_ap, fDc_ap, fT_ap, fOrT_ap, fAndT_ap, fOrF_ap, storeD_ap, fPut_ap, fCallO_ap, fCallL_ap, appD_ap, fApp_ap, fDg_ap, fNegI_ap, fPar_ap, fCallKw_ap, fChain_ap, fGet2_ap, fGet1_ap, fWalk_ap, fNotT_ap, fNotV_ap, fG1F_ap, fOpF_ap, fCallF_ap, runD_ap, runO_ap, Option.bind_assoc, loopF_nil, loopF_cons, loopLc_nil, loopLc_cons, loopW_succ, items_list, items_tuple, items_sq, tupD_list, tupD_tuple, tupD_sq, lenD_list, lenD_tuple, lenD_sq, intD_int, intD_bool, absD_int, truD_none, truD_bool, truD_int, truD_list, truD_tuple, truD_sq, gIx_int, asB_bool, g1_one, g1L_one, g2i_two, gInt_two, res_d, res_bor, fz_d, fz_bor, andThen_nx, andThen_rt, andThen_ro, andThen_bk, andThen_ct, again_nx, again_ct, again_bk, again_rt, again_ro, ended_rt, ended_nx, ended_ro, endedO_ro, fzs, eA, ress, outsOf, argsD, setOuts, gsCons, gsNil, argEnv, wipeE, restE, turnLc, maxD, minD, plus_int, sub_int, int_eq, int_ne, int_lt, int_le, int_gt, int_ge, oNone, oSome, pick, atI_0, atI_1, atI_2]
  · have h8' : ¬ (due.length : Int) < 8 := by omega
    have r0 := rng1_nat (n := 0) (by omega)
    simp at r0
    simp [fVar_ap, fC_ap, fTup_ap, fLst_ap, fOp_ap, fB_ap, fCall_ap, fAnd_ap, fOr_ap, fNot_ap, fIf_ap, fV_ap, fAndV_ap, fOrV_ap, fL_ap, fDisp_ap, fSeq_ap, fEnum_ap, fZip_ap, gSh_ap, gTupF_ap, fLc_ap, fYes_ap, fNil_ap, fThen_ap, fAsg_ap, fOwn_ap, fAsgT_ap, fRet_ap, fRetF_ap, fRetN_ap, fBk_ap, fCt_ap, fDrop_ap, fIfS_ap, fFor_ap, fCallD_ap, fG1_ap, fIsi_ap, fSl_ap, fSlF_ap, fD_ap, fOwnD_ap, fDc_ap, fT_ap, fOrT_ap, fAndT_ap, fOrF_ap, storeD_ap, fPut_ap, fCallO_ap, fCallL_ap, appD_ap, fApp_ap, fDg_ap, fNegI_ap, fPar_ap, fCallKw_ap, fChain_ap, fGet2_ap, fGet1_ap, fWalk_ap, fNotT_ap, fNotV_ap, fG1F_ap, fOpF_ap, fCallF_ap, runD_ap, runO_ap, Option.bind_assoc, loopF_nil, loopF_cons, loopLc_nil, loopLc_cons, loopW_succ, items_list, items_tuple, items_sq, tupD_list, tupD_tuple, tupD_sq, lenD_list, lenD_tuple, lenD_sq, intD_int, intD_bool, absD_int, truD_none, truD_bool, truD_int, truD_list, truD_tuple, truD_sq, gIx_int, asB_bool, g1_one, g1L_one, g2i_two, gInt_two, res_d, res_bor, fz_d, fz_bor, andThen_nx, andThen_rt, andThen_ro, andThen_bk, andThen_ct, again_nx, again_ct, again_bk, again_rt, again_ro, ended_rt, ended_nx, ended_ro, endedO_ro, fzs, eA, ress, outsOf, argsD, setOuts, gsCons, gsNil, argEnv, wipeE, restE, turnLc, maxD, minD, plus_int, sub_int, int_eq, int_ne, int_lt, int_le, int_gt, int_ge, oNone, oSome, pick, atI_0, atI_1, atI_2, ld, h8', r0]
end K03

set_option Elab.async false
set_option linter.all false
set_option maxRecDepth 100000
set_option maxHeartbeats 2000000
namespace K03
open L2.Lp Lnd
open PySem (PyData Str)
theorem sub_filter : ∀ {l L : List Spot}, l.Sublist L → L.Nodup → l = L.filter fun x => decide (x ∈ l)
  | _, _, .slnil, _ => rfl
  | l, x :: L, .cons _ h, hn => by
    obtain ⟨h1, h2⟩ := List.nodup_cons.mp hn
    have : x ∉ l := fun m => h1 (h.subset m)
    rw [List.filter_cons, if_neg (by simpa using this)]
    exact sub_filter h h2
  | x :: l, _ :: L, .cons₂ _ h, hn => by
    obtain ⟨h1, h2⟩ := List.nodup_cons.mp hn
    rw [List.filter_cons, if_pos (by simp)]
    congr 1
    refine (sub_filter h h2).trans (List.filter_congr fun y hy => ?_)
    have : y ≠ x := fun z => h1 (z ▸ hy)
    simp [this]
theorem land_sub (L : List Spot) (cut : Cut) : (landT L cut).Sublist L := List.filter_sublist
theorem plain_same {ch : Chart} (h : Ok ch) (x y : Cut) : (part (letT ch) (landT (letT ch) x) ch.1 [] = part (letT ch) (landT (letT ch) y) ch.1 []) ↔ landT (letT ch) x = landT (letT ch) y := by
  constructor
  · intro e
    have h1 := land_part (let_nodup h) (let_told h) (sub_filter (land_sub (letT ch) x) (let_nodup h))
    have h2 := land_part (let_nodup h) (let_told h) (sub_filter (land_sub (letT ch) y) (let_nodup h))
    rw [← h1, ← h2, e]
  · intro e
    rw [e]
theorem eq_cut (b : Bool) (x y : Cut) : gEq (eCut b x) (eCut b y) = some (.bool (decide (x = y))) := eq_enc (enc_cut b) x y
def RI (n : Nat) (env : List Sl) : Prop := ∃ (b' : PyData) (x1 x2 x3 x4 x5 x6 x7 : Sl), env = [Sl.mu true b', x1, x2, x3, x4, x5, x6, x7, Sl.no] ∧ Box (n * 1000) b'
theorem right_F {b : PyData} (h : Box 0 b) : ∃ b', F__law_right [b] = some (.bool true, [b']) := by
  simp only [F__law_right, f__law_right]
  have r3 := rng1_nat (n := 3) (by omega)
  simp only [Int.cast_ofNat_Int] at r3
  simp [fVar_ap, fC_ap, fTup_ap, fLst_ap, fOp_ap, fB_ap, fCall_ap, fAnd_ap, fOr_ap, fNot_ap, fIf_ap, fV_ap, fAndV_ap, fOrV_ap, fL_ap, fDisp_ap, fSeq_ap, fEnum_ap, fZip_ap, gSh_ap, gTupF_ap, fLc_ap, fYes_ap, fNil_ap, fThen_ap, fAsg_ap, fOwn_ap, fAsgT_ap, fRet_ap, fRetF_ap, fRetN_ap, fBk_ap, fCt_ap, fDrop_ap, fIfS_ap, fFor_ap, fCallD_ap, fG1_ap, fIsi_ap, fSl_ap, fSlF_ap, fD_ap, fOwnD_ap, fDc_ap, fT_ap, fOrT_ap, fAndT_ap, fOrF_ap, storeD_ap, fPut_ap, fCallO_ap, fCallL_ap, appD_ap, fApp_ap, fDg_ap, fNegI_ap, fPar_ap, fCallKw_ap, fChain_ap, fGet2_ap, fGet1_ap, fWalk_ap, fNotT_ap, fNotV_ap, fG1F_ap, fOpF_ap, fCallF_ap, runD_ap, runO_ap, Option.bind_assoc, loopF_nil, loopF_cons, loopLc_nil, loopLc_cons, loopW_succ, items_list, items_tuple, items_sq, tupD_list, tupD_tuple, tupD_sq, lenD_list, lenD_tuple, lenD_sq, intD_int, intD_bool, absD_int, truD_none, truD_bool, truD_int, truD_list, truD_tuple, truD_sq, gIx_int, asB_bool, g1_one, g1L_one, g2i_two, gInt_two, res_d, res_bor, fz_d, fz_bor, andThen_nx, andThen_rt, andThen_ro, andThen_bk, andThen_ct, again_nx, again_ct, again_bk, again_rt, again_ro, ended_rt, ended_nx, ended_ro, endedO_ro, fzs, eA, ress, outsOf, argsD, setOuts, gsCons, gsNil, argEnv, wipeE, restE, turnLc, maxD, minD, plus_int, sub_int, int_eq, int_ne, int_lt, int_le, int_gt, int_ge, oNone, oSome, pick, atI_0, atI_1, atI_2, r3]
  have key := loop_inv (enc := fun i : Nat => PyData.int (0 + i)) (all := List.range 3) (fg := gSh 1) (fb := (fThen (fAsg 2 (fCallD [true, false] F__law_chart [(fVar 0), (fC (.int 4))])) (fThen (fAsg 3 (fCall (g1 tupD) [(fL (fLc (List.map (·.2) ([("_law_own", 8)] : List (Str × Nat))) (fWalk (fCallD [false] F__law_let [(fVar 2)])) (gSh 8) (fB (fOp gEq (fCallD [true, false] F__law_take [(fVar 0), (fC (.int 2))]) (fC (.int 0)))) (fVar 8)))])) (fThen (fIfS (fB (fOp gEq (fCallD [true, false] F__law_take [(fVar 0), (fC (.int 2))]) (fC (.int 0)))) (fAsg 3 (fCallD [false, false] F__law_land [(fVar 2), (fCallD [true, false, false] F__law_cut [(fVar 0), (fOp gIx (fVar 2) (fC (.int 0))), (fC (.int 2))])])) fNil) (fThen (fIfS (fNot (fT (fCallD [false, false] F__law_case_right [(fVar 2), (fVar 3)]))) (fRet (fC (.bool false))) fNil) (fThen (fPar [6, 7] [(fCallD [true, false, false] F__law_cut [(fVar 0), (fOp gIx (fVar 2) (fC (.int 0))), (fC (.int 2))]), (fCallD [true, false, false] F__law_cut [(fVar 0), (fOp gIx (fVar 2) (fC (.int 0))), (fC (.int 2))])]) (fThen (fAsg 4 (fOp gEq (fCallD [false, false] F__law_land [(fVar 2), (fVar 6)]) (fCallD [false, false] F__law_land [(fVar 2), (fVar 7)]))) (fThen (fAsg 5 (fL (fLc (List.map (·.2) ([("_law_own", 8)] : List (Str × Nat))) (fWalk (fTup [(fVar 6), (fVar 7)])) (gSh 8) fYes (fCallD [false, false] F_plain_cut [(fVar 2), (fCallD [false, false] F_land_of [(fVar 2), (fVar 8)])])))) (fIfS (fB (fOp gNe (fOp gEq (fOp gIx (fVar 5) (fC (.int 0))) (fOp gIx (fVar 5) (fC (.int 1)))) (fVar 4))) (fRet (fC (.bool false))) fNil))))))))) (I := fun pre env => RI pre.length env) (List.range 3) [] [Sl.mu true b, Sl.no, Sl.no, Sl.no, Sl.no, Sl.no, Sl.no, Sl.no, Sl.no] rfl ⟨b, _, _, _, _, _, _, _, rfl, h⟩ ?_
  · obtain ⟨e, h1, b', x1, x2, x3, x4, x5, x6, x7, rfl, _⟩ := key
    simp [fVar_ap, fC_ap, fTup_ap, fLst_ap, fOp_ap, fB_ap, fCall_ap, fAnd_ap, fOr_ap, fNot_ap, fIf_ap, fV_ap, fAndV_ap, fOrV_ap, fL_ap, fDisp_ap, fSeq_ap, fEnum_ap, fZip_ap, gSh_ap, gTupF_ap, fLc_ap, fYes_ap, fNil_ap, fThen_ap, fAsg_ap, fOwn_ap, fAsgT_ap, fRet_ap, fRetF_ap, fRetN_ap, fBk_ap, fCt_ap, fDrop_ap, fIfS_ap, fFor_ap, fCallD_ap, fG1_ap, fIsi_ap, fSl_ap, fSlF_ap, fD_ap, fOwnD_ap, fDc_ap, fT_ap, fOrT_ap, fAndT_ap, fOrF_ap, storeD_ap, fPut_ap, fCallO_ap, fCallL_ap, appD_ap, fApp_ap, fDg_ap, fNegI_ap, fPar_ap, fCallKw_ap, fChain_ap, fGet2_ap, fGet1_ap, fWalk_ap, fNotT_ap, fNotV_ap, fG1F_ap, fOpF_ap, fCallF_ap, runD_ap, runO_ap, Option.bind_assoc, loopF_nil, loopF_cons, loopLc_nil, loopLc_cons, loopW_succ, items_list, items_tuple, items_sq, tupD_list, tupD_tuple, tupD_sq, lenD_list, lenD_tuple, lenD_sq, intD_int, intD_bool, absD_int, truD_none, truD_bool, truD_int, truD_list, truD_tuple, truD_sq, gIx_int, asB_bool, g1_one, g1L_one, g2i_two, gInt_two, res_d, res_bor, fz_d, fz_bor, andThen_nx, andThen_rt, andThen_ro, andThen_bk, andThen_ct, again_nx, again_ct, again_bk, again_rt, again_ro, ended_rt, ended_nx, ended_ro, endedO_ro, fzs, eA, ress, outsOf, argsD, setOuts, gsCons, gsNil, argEnv, wipeE, restE, turnLc, maxD, minD, plus_int, sub_int, int_eq, int_ne, int_lt, int_le, int_gt, int_ge, oNone, oSome, pick, atI_0, atI_1, atI_2] at h1 ⊢
    refine ⟨b', ?_⟩
    rw [h1]
    simp [fVar_ap, fC_ap, fTup_ap, fLst_ap, fOp_ap, fB_ap, fCall_ap, fAnd_ap, fOr_ap, fNot_ap, fIf_ap, fV_ap, fAndV_ap, fOrV_ap, fL_ap, fDisp_ap, fSeq_ap, fEnum_ap, fZip_ap, gSh_ap, gTupF_ap, fLc_ap, fYes_ap, fNil_ap, fThen_ap, fAsg_ap, fOwn_ap, fAsgT_ap, fRet_ap, fRetF_ap, fRetN_ap, fBk_ap, fCt_ap, fDrop_ap, fIfS_ap, fFor_ap, fCallD_ap, fG1_ap, fIsi_ap, fSl_ap, fSlF_ap, fD_ap, fOwnD_ap, fDc_ap, fT_ap, fOrT_ap, fAndT_ap, fOrF_ap, storeD_ap, fPut_ap, fCallO_ap, fCallL_ap, appD_ap, fApp_ap, fDg_ap, fNegI_ap, fPar_ap, fCallKw_ap, fChain_ap, fGet2_ap, fGet1_ap, fWalk_ap, fNotT_ap, fNotV_ap, fG1F_ap, fOpF_ap, fCallF_ap, runD_ap, runO_ap, Option.bind_assoc, loopF_nil, loopF_cons, loopLc_nil, loopLc_cons, loopW_succ, items_list, items_tuple, items_sq, tupD_list, tupD_tuple, tupD_sq, lenD_list, lenD_tuple, lenD_sq, intD_int, intD_bool, absD_int, truD_none, truD_bool, truD_int, truD_list, truD_tuple, truD_sq, gIx_int, asB_bool, g1_one, g1L_one, g2i_two, gInt_two, res_d, res_bor, fz_d, fz_bor, andThen_nx, andThen_rt, andThen_ro, andThen_bk, andThen_ct, again_nx, again_ct, again_bk, again_rt, again_ro, ended_rt, ended_nx, ended_ro, endedO_ro, fzs, eA, ress, outsOf, argsD, setOuts, gsCons, gsNil, argEnv, wipeE, restE, turnLc, maxD, minD, plus_int, sub_int, int_eq, int_ne, int_lt, int_le, int_gt, int_ge, oNone, oSome, pick, atI_0, atI_1, atI_2]
  · rintro pre i post env ep ⟨b0, x1, x2, x3, x4, x5, x6, x7, rfl, hb0⟩
    have hpl : pre.length + 1 + post.length = 3 := by
      have := congrArg List.length ep
      simp at this
      omega
    obtain ⟨ch, b1, e1, hch, _, _, _, _, hb1⟩ := chart_F hb0 (by omega) 4 (by omega)
    have e1 : F__law_chart [b0, .int 4] = some (eChart true ch, [b1]) := e1
    have h6 := hch.few
    have hc : items (eChart true ch) = some [eSpot true ch.1, eCut true ch.2] := rfl
    have ll := law_let_F ch (by omega)
    have lland : ∀ cut, F__law_land [eChart true ch, eCut true cut] = some (eLand true (landT (letT ch) cut), []) := fun cut => law_land_F true ch cut (by omega)
    have lof : ∀ cut, F_land_of [eChart true ch, eCut true cut] = some (eLand true (landT (letT ch) cut), []) := fun cut => land_of_F true true ch cut (by omega)
    have ln : (letT ch).length ≤ 64 := by
      have h1 : (letT ch).length ≤ (spotsT ch.1).length := List.length_filter_le _ _
      have h2 : (spotsT ch.1).length = (subsT ch.1).length := by
        unfold spotsT sortX
        exact len_isort_ _
      rw [h2, subs_len] at h1
      have h3 : 2 ^ ch.1.length ≤ 2 ^ 6 := Nat.pow_le_pow_right (by decide) h6
      omega
    simp [fVar_ap, fC_ap, fTup_ap, fLst_ap, fOp_ap, fB_ap, fCall_ap, fAnd_ap, fOr_ap, fNot_ap, fIf_ap, fV_ap, fAndV_ap, fOrV_ap, fL_ap, fDisp_ap, fSeq_ap, fEnum_ap, fZip_ap, gSh_ap, gTupF_ap, fLc_ap, fYes_ap, fNil_ap, fThen_ap, fAsg_ap, fOwn_ap, fAsgT_ap, fRet_ap, fRetF_ap, fRetN_ap, fBk_ap, fCt_ap, fDrop_ap, fIfS_ap, fFor_ap, fCallD_ap, fG1_ap, fIsi_ap, fSl_ap, fSlF_ap, fD_ap, fOwnD_ap, fDc_ap, fT_ap, fOrT_ap, fAndT_ap, fOrF_ap, storeD_ap, fPut_ap, fCallO_ap, fCallL_ap, appD_ap, fApp_ap, fDg_ap, fNegI_ap, fPar_ap, fCallKw_ap, fChain_ap, fGet2_ap, fGet1_ap, fWalk_ap, fNotT_ap, fNotV_ap, fG1F_ap, fOpF_ap, fCallF_ap, runD_ap, runO_ap, Option.bind_assoc, loopF_nil, loopF_cons, loopLc_nil, loopLc_cons, loopW_succ, items_list, items_tuple, items_sq, tupD_list, tupD_tuple, tupD_sq, lenD_list, lenD_tuple, lenD_sq, intD_int, intD_bool, absD_int, truD_none, truD_bool, truD_int, truD_list, truD_tuple, truD_sq, gIx_int, asB_bool, g1_one, g1L_one, g2i_two, gInt_two, res_d, res_bor, fz_d, fz_bor, andThen_nx, andThen_rt, andThen_ro, andThen_bk, andThen_ct, again_nx, again_ct, again_bk, again_rt, again_ro, ended_rt, ended_nx, ended_ro, endedO_ro, fzs, eA, ress, outsOf, argsD, setOuts, gsCons, gsNil, argEnv, wipeE, restE, turnLc, maxD, minD, plus_int, sub_int, int_eq, int_ne, int_lt, int_le, int_gt, int_ge, oNone, oSome, pick, atI_0, atI_1, atI_2, e1, ll]
    apply lc_state_k (C := fun o => ∃ e, o = some (Out.nx e) ∧ RI (pre.length + 1) e) (I := fun pr out env => ∃ (ls : List Spot) (b' : PyData), out = ls.map (eSpot true) ∧ ls.Sublist pr ∧ env = [Sl.mu true b', Sl.sh (.int i), Sl.sh (eChart true ch), x3, x4, x5, x6, x7, Sl.no] ∧ Box (pre.length * 1000 + 100 + pr.length) b')
    · exact ⟨[], b1, rfl, List.Sublist.refl _, rfl, hb1⟩
    · rintro pr x post out env e ⟨ls, b', rfl, hs, rfl, hb⟩
      have hp2 : pr.length + 1 + post.length = (letT ch).length := by
        rw [← e]
        simp
        omega
      obtain ⟨r, b2, e2, hr, hb2⟩ := take_F hb (by omega) (n := 2) (by decide) (by decide)
      by_cases h0 : r = 0
      · subst h0
        refine ⟨some (eSpot true x), [Sl.mu true b2, Sl.sh (.int i), Sl.sh (eChart true ch), x3, x4, x5, x6, x7, Sl.no], ?_, ls ++ [x], b2, by simp, hs.append (List.Sublist.refl _), rfl, hb2.more (by simp; omega)⟩
        simp at e2
        simp [fVar_ap, fC_ap, fTup_ap, fLst_ap, fOp_ap, fB_ap, fCall_ap, fAnd_ap, fOr_ap, fNot_ap, fIf_ap, fV_ap, fAndV_ap, fOrV_ap, fL_ap, fDisp_ap, fSeq_ap, fEnum_ap, fZip_ap, gSh_ap, gTupF_ap, fLc_ap, fYes_ap, fNil_ap, fThen_ap, fAsg_ap, fOwn_ap, fAsgT_ap, fRet_ap, fRetF_ap, fRetN_ap, fBk_ap, fCt_ap, fDrop_ap, fIfS_ap, fFor_ap, fCallD_ap, fG1_ap, fIsi_ap, fSl_ap, fSlF_ap, fD_ap, fOwnD_ap, fDc_ap, fT_ap, fOrT_ap, fAndT_ap, fOrF_ap, storeD_ap, fPut_ap, fCallO_ap, fCallL_ap, appD_ap, fApp_ap, fDg_ap, fNegI_ap, fPar_ap, fCallKw_ap, fChain_ap, fGet2_ap, fGet1_ap, fWalk_ap, fNotT_ap, fNotV_ap, fG1F_ap, fOpF_ap, fCallF_ap, runD_ap, runO_ap, Option.bind_assoc, loopF_nil, loopF_cons, loopLc_nil, loopLc_cons, loopW_succ, items_list, items_tuple, items_sq, tupD_list, tupD_tuple, tupD_sq, lenD_list, lenD_tuple, lenD_sq, intD_int, intD_bool, absD_int, truD_none, truD_bool, truD_int, truD_list, truD_tuple, truD_sq, gIx_int, asB_bool, g1_one, g1L_one, g2i_two, gInt_two, res_d, res_bor, fz_d, fz_bor, andThen_nx, andThen_rt, andThen_ro, andThen_bk, andThen_ct, again_nx, again_ct, again_bk, again_rt, again_ro, ended_rt, ended_nx, ended_ro, endedO_ro, fzs, eA, ress, outsOf, argsD, setOuts, gsCons, gsNil, argEnv, wipeE, restE, turnLc, maxD, minD, plus_int, sub_int, int_eq, int_ne, int_lt, int_le, int_gt, int_ge, oNone, oSome, pick, atI_0, atI_1, atI_2, e2]
      · have h0' : ¬ (r : Int) = 0 := by omega
        refine ⟨none, [Sl.mu true b2, Sl.sh (.int i), Sl.sh (eChart true ch), x3, x4, x5, x6, x7, Sl.no], ?_, ls, b2, by simp, hs.trans (List.sublist_append_left _ _), rfl, hb2.more (by simp; omega)⟩
        simp [fVar_ap, fC_ap, fTup_ap, fLst_ap, fOp_ap, fB_ap, fCall_ap, fAnd_ap, fOr_ap, fNot_ap, fIf_ap, fV_ap, fAndV_ap, fOrV_ap, fL_ap, fDisp_ap, fSeq_ap, fEnum_ap, fZip_ap, gSh_ap, gTupF_ap, fLc_ap, fYes_ap, fNil_ap, fThen_ap, fAsg_ap, fOwn_ap, fAsgT_ap, fRet_ap, fRetF_ap, fRetN_ap, fBk_ap, fCt_ap, fDrop_ap, fIfS_ap, fFor_ap, fCallD_ap, fG1_ap, fIsi_ap, fSl_ap, fSlF_ap, fD_ap, fOwnD_ap, fDc_ap, fT_ap, fOrT_ap, fAndT_ap, fOrF_ap, storeD_ap, fPut_ap, fCallO_ap, fCallL_ap, appD_ap, fApp_ap, fDg_ap, fNegI_ap, fPar_ap, fCallKw_ap, fChain_ap, fGet2_ap, fGet1_ap, fWalk_ap, fNotT_ap, fNotV_ap, fG1F_ap, fOpF_ap, fCallF_ap, runD_ap, runO_ap, Option.bind_assoc, loopF_nil, loopF_cons, loopLc_nil, loopLc_cons, loopW_succ, items_list, items_tuple, items_sq, tupD_list, tupD_tuple, tupD_sq, lenD_list, lenD_tuple, lenD_sq, intD_int, intD_bool, absD_int, truD_none, truD_bool, truD_int, truD_list, truD_tuple, truD_sq, gIx_int, asB_bool, g1_one, g1L_one, g2i_two, gInt_two, res_d, res_bor, fz_d, fz_bor, andThen_nx, andThen_rt, andThen_ro, andThen_bk, andThen_ct, again_nx, again_ct, again_bk, again_rt, again_ro, ended_rt, ended_nx, ended_ro, endedO_ro, fzs, eA, ress, outsOf, argsD, setOuts, gsCons, gsNil, argEnv, wipeE, restE, turnLc, maxD, minD, plus_int, sub_int, int_eq, int_ne, int_lt, int_le, int_gt, int_ge, oNone, oSome, pick, atI_0, atI_1, atI_2, e2, h0, h0']
    · rintro outs env ⟨ls, b2, rfl, hs, rfl, hb2⟩
      have lt : PyData.tuple (ls.map (eSpot true)) = eLand true ls := rfl
      obtain ⟨r, b3, e3, hr, hb3⟩ := take_F hb2 (by omega) (n := 2) (by decide) (by decide)
      by_cases h0 : r = 0
      · subst h0
        obtain ⟨cut, b4, e4, _, _, _, hb4⟩ := cut_F hb3 2 (by omega) (by omega) true ch.1 (by omega)
        have e4 : F__law_cut [b3, eSpot true ch.1, .int 2] = some (eCut true cut, [b4]) := e4
        simp at e3
        have cr := case_right_F ch (landT (letT ch) cut) hch (sub_filter (land_sub _ _) (let_nodup hch))
        obtain ⟨near, b6, e6, _, _, _, hb6⟩ := cut_F hb4 2 (by omega) (by omega) true ch.1 (by omega)
        obtain ⟨far, b7, e7, _, _, _, hb7⟩ := cut_F hb6 2 (by omega) (by omega) true ch.1 (by omega)
        have c1 : F__law_cut [b4, eSpot true ch.1, .int 2] = some (eCut true near, [b6]) := e6
        have c2 : F__law_cut [b6, eSpot true ch.1, .int 2] = some (eCut true far, [b7]) := e7
        have pl : ∀ cut, F_plain_cut [eChart true ch, eLand true (landT (letT ch) cut)] = some (eCut true (part (letT ch) (landT (letT ch) cut) ch.1 []), []) := fun cut => plain_cut_F true true ch _ hch
        have ps := plain_same hch near far
        refine ⟨[Sl.mu true b7, Sl.sh (.int i), Sl.sh (eChart true ch), Sl.sh (eLand true (landT (letT ch) cut)), Sl.sh (.bool (decide (landT (letT ch) near = landT (letT ch) far))), Sl.sh (.list [eCut true (part (letT ch) (landT (letT ch) near) ch.1 []), eCut true (part (letT ch) (landT (letT ch) far) ch.1 [])]), Sl.sh (eCut true near), Sl.sh (eCut true far), Sl.no], ?_, b7, _, _, _, _, _, _, _, rfl, hb7.more (by omega)⟩
        simp [fVar_ap, fC_ap, fTup_ap, fLst_ap, fOp_ap, fB_ap, fCall_ap, fAnd_ap, fOr_ap, fNot_ap, fIf_ap, fV_ap, fAndV_ap, fOrV_ap, fL_ap, fDisp_ap, fSeq_ap, fEnum_ap, fZip_ap, gSh_ap, gTupF_ap, fLc_ap, fYes_ap, fNil_ap, fThen_ap, fAsg_ap, fOwn_ap, fAsgT_ap, fRet_ap, fRetF_ap, fRetN_ap, fBk_ap, fCt_ap, fDrop_ap, fIfS_ap, fFor_ap, fCallD_ap, fG1_ap, fIsi_ap, fSl_ap, fSlF_ap, fD_ap, fOwnD_ap, fDc_ap, fT_ap, fOrT_ap, fAndT_ap, fOrF_ap, storeD_ap, fPut_ap, fCallO_ap, fCallL_ap, appD_ap, fApp_ap, fDg_ap, fNegI_ap, fPar_ap, fCallKw_ap, fChain_ap, fGet2_ap, fGet1_ap, fWalk_ap, fNotT_ap, fNotV_ap, fG1F_ap, fOpF_ap, fCallF_ap, runD_ap, runO_ap, Option.bind_assoc, loopF_nil, loopF_cons, loopLc_nil, loopLc_cons, loopW_succ, items_list, items_tuple, items_sq, tupD_list, tupD_tuple, tupD_sq, lenD_list, lenD_tuple, lenD_sq, intD_int, intD_bool, absD_int, truD_none, truD_bool, truD_int, truD_list, truD_tuple, truD_sq, gIx_int, asB_bool, g1_one, g1L_one, g2i_two, gInt_two, res_d, res_bor, fz_d, fz_bor, andThen_nx, andThen_rt, andThen_ro, andThen_bk, andThen_ct, again_nx, again_ct, again_bk, again_rt, again_ro, ended_rt, ended_nx, ended_ro, endedO_ro, fzs, eA, ress, outsOf, argsD, setOuts, gsCons, gsNil, argEnv, wipeE, restE, turnLc, maxD, minD, plus_int, sub_int, int_eq, int_ne, int_lt, int_le, int_gt, int_ge, oNone, oSome, pick, atI_0, atI_1, atI_2, hc, e3, e4, lt, cr, c1, c2, lland, lof, pl, eq_land, eq_cut, ps, ne_bool, fzs]
      · have h0' : ¬ (r : Int) = 0 := by omega
        have cr := case_right_F ch ls hch (sub_filter hs (let_nodup hch))
        obtain ⟨near, b6, e6, _, _, _, hb6⟩ := cut_F hb3 2 (by omega) (by omega) true ch.1 (by omega)
        obtain ⟨far, b7, e7, _, _, _, hb7⟩ := cut_F hb6 2 (by omega) (by omega) true ch.1 (by omega)
        have c1 : F__law_cut [b3, eSpot true ch.1, .int 2] = some (eCut true near, [b6]) := e6
        have c2 : F__law_cut [b6, eSpot true ch.1, .int 2] = some (eCut true far, [b7]) := e7
        have pl : ∀ cut, F_plain_cut [eChart true ch, eLand true (landT (letT ch) cut)] = some (eCut true (part (letT ch) (landT (letT ch) cut) ch.1 []), []) := fun cut => plain_cut_F true true ch _ hch
        have ps := plain_same hch near far
        refine ⟨[Sl.mu true b7, Sl.sh (.int i), Sl.sh (eChart true ch), Sl.sh (eLand true ls), Sl.sh (.bool (decide (landT (letT ch) near = landT (letT ch) far))), Sl.sh (.list [eCut true (part (letT ch) (landT (letT ch) near) ch.1 []), eCut true (part (letT ch) (landT (letT ch) far) ch.1 [])]), Sl.sh (eCut true near), Sl.sh (eCut true far), Sl.no], ?_, b7, _, _, _, _, _, _, _, rfl, hb7.more (by omega)⟩
        simp [fVar_ap, fC_ap, fTup_ap, fLst_ap, fOp_ap, fB_ap, fCall_ap, fAnd_ap, fOr_ap, fNot_ap, fIf_ap, fV_ap, fAndV_ap, fOrV_ap, fL_ap, fDisp_ap, fSeq_ap, fEnum_ap, fZip_ap, gSh_ap, gTupF_ap, fLc_ap, fYes_ap, fNil_ap, fThen_ap, fAsg_ap, fOwn_ap, fAsgT_ap, fRet_ap, fRetF_ap, fRetN_ap, fBk_ap, fCt_ap, fDrop_ap, fIfS_ap, fFor_ap, fCallD_ap, fG1_ap, fIsi_ap, fSl_ap, fSlF_ap, fD_ap, fOwnD_ap, fDc_ap, fT_ap, fOrT_ap, fAndT_ap, fOrF_ap, storeD_ap, fPut_ap, fCallO_ap, fCallL_ap, appD_ap, fApp_ap, fDg_ap, fNegI_ap, fPar_ap, fCallKw_ap, fChain_ap, fGet2_ap, fGet1_ap, fWalk_ap, fNotT_ap, fNotV_ap, fG1F_ap, fOpF_ap, fCallF_ap, runD_ap, runO_ap, Option.bind_assoc, loopF_nil, loopF_cons, loopLc_nil, loopLc_cons, loopW_succ, items_list, items_tuple, items_sq, tupD_list, tupD_tuple, tupD_sq, lenD_list, lenD_tuple, lenD_sq, intD_int, intD_bool, absD_int, truD_none, truD_bool, truD_int, truD_list, truD_tuple, truD_sq, gIx_int, asB_bool, g1_one, g1L_one, g2i_two, gInt_two, res_d, res_bor, fz_d, fz_bor, andThen_nx, andThen_rt, andThen_ro, andThen_bk, andThen_ct, again_nx, again_ct, again_bk, again_rt, again_ro, ended_rt, ended_nx, ended_ro, endedO_ro, fzs, eA, ress, outsOf, argsD, setOuts, gsCons, gsNil, argEnv, wipeE, restE, turnLc, maxD, minD, plus_int, sub_int, int_eq, int_ne, int_lt, int_le, int_gt, int_ge, oNone, oSome, pick, atI_0, atI_1, atI_2, hc, e3, h0, h0', lt, cr, c1, c2, lland, lof, pl, eq_land, eq_cut, ps, ne_bool, fzs]
end K03

set_option Elab.async false
set_option linter.all false
set_option maxRecDepth 100000
set_option maxHeartbeats 2000000
namespace L2.Lp
open PySem L2
theorem slF_to {ds : List PyData} {k : Nat} : cutD ds none (some (k : Int)) = ds.take k := by
  unfold cutD HT.sIx
  have : ¬ (k : Int) < 0 := by omega
  simp [this]
theorem cut_map {X : Type} (f : X → PyData) (xs : List X) (a : Nat) (b : Nat) : ∃ ys : List X, cutD (xs.map f) (some (a : Int)) (some (b : Int)) = ys.map f ∧ ys.length ≤ xs.length - a := by
  refine ⟨(xs.drop (HT.sIx (xs.map f).length 0 (some (a : Int)))).take (HT.sIx (xs.map f).length (xs.map f).length (some (b : Int)) - HT.sIx (xs.map f).length 0 (some (a : Int))), ?_, ?_⟩
  · unfold cutD
    rw [List.map_take, List.map_drop]
  · unfold HT.sIx
    have : ¬ (a : Int) < 0 := by omega
    have : ¬ (b : Int) < 0 := by omega
    simp [*]
    omega
theorem enum_map {X : Type} (f : X → PyData) (ys : List X) : enumD (ys.map f) = ((List.range ys.length).zip ys).map fun p : Nat × X => .tuple [.int (p.1 : Nat), f p.2] := by
  unfold enumD
  rw [List.length_map, List.zip_map_right, List.map_map]
  rfl
theorem put_at {ds : List PyData} {j : Nat} {d : PyData} (h : j < ds.length) : putD (.list ds) (.int (j : Int)) d = some (.list (ds.set j d)) := by
  unfold putD putL L2.ixN
  have : (0 : Int) ≤ (j : Int) := by omega
  simp [h]
end L2.Lp
namespace K03
open L2.Lp Lnd
open PySem (PyData Str)
/-- the numbers that draws start from -/
theorem cells_F (ns : List Int) (h : ns.length ≤ 63) (top : Nat) (ht : 0 < top) (ht2 : top ≤ 60) : ∃ cs : List Int, F__law_cells [.list (ns.map .int), .int top] = some (.list (cs.map .int), []) ∧ 0 < cs.length ∧ cs.length ≤ top := by
  have sl : cutD (ns.map PyData.int) none (some (top : Int)) = (ns.take top).map .int := by rw [slF_to, List.map_take]
  obtain ⟨ys, e1, e3⟩ := cut_map PyData.int ns top 63
  have e1 : cutD (ns.map PyData.int) (some (top : Int)) (some 63) = ys.map .int := e1
  have em := enum_map PyData.int ys
  have first : ∃ cs : List Int, (if (ns.take top).isEmpty = true then [PyData.int 0] else (ns.take top).map .int) = cs.map .int ∧ 0 < cs.length ∧ cs.length ≤ top ∧ (0 < ys.length → cs.length = top) := by
    by_cases h0 : ns.take top = []
    · refine ⟨[0], by rw [h0]; rfl, by simp, ht, fun z => ?_⟩
      have := congrArg List.length h0
      rw [List.length_take, List.length_nil] at this
      omega
    · refine ⟨ns.take top, by rw [if_neg (by simpa [List.isEmpty_iff] using h0)], List.length_pos_iff.mpr h0, by simp; omega, fun z => by simp; omega⟩
  obtain ⟨cs0, c1, c2, c3, c4⟩ := first
  refine (?_ : ∃ cs : List Int, _)
  have key := loop_inv (enc := fun p : Nat × Int => PyData.tuple [.int (p.1 : Nat), .int p.2]) (all := (List.range ys.length).zip ys) (fg := (gTupF 2 (gsCons (gSh 3) (gsCons (gSh 4) gsNil)))) (fb := (fThen (fAsg 5 (fOp gMod (fCall (g1 intD) [(fVar 3)]) (fVar 1))) (fPut 2 (fVar 5) (fOp gPlus (fOp gIx (fVar 2) (fVar 5)) (fOp gMul (fVar 4) (fOp gPlus (fVar 3) (fC (.int 2)))))))) (I := fun pre env => ∃ (cs : List Int) (x y z : Sl), cs.length = cs0.length ∧ env = [Sl.sh (.list (ns.map .int)), Sl.sh (.int top), Sl.mu false (.list (cs.map .int)), x, y, z]) ((List.range ys.length).zip ys) [] [Sl.sh (.list (ns.map .int)), Sl.sh (.int top), Sl.mu false (.list (cs0.map .int)), Sl.no, Sl.no, Sl.no] rfl ⟨cs0, _, _, _, rfl, rfl⟩ ?_
  · obtain ⟨e, h1, cs, x, y, z, hl, rfl⟩ := key
    refine ⟨cs, ?_, by omega, by omega⟩
    simp only [F__law_cells, f__law_cells]
    have emp : (List.take top (ns.map PyData.int)).isEmpty = (ns.take top).isEmpty := by rw [← List.map_take, List.isEmpty_map]
    have st : (fOrF (fCallF (g1L items) [(fSl (fVar 0) oNone (oSome (fVar 1)))]) (fDisp [(fC (.int 0))])) [Sl.sh (.list (ns.map .int)), Sl.sh (.int top), Sl.no, Sl.no, Sl.no, Sl.no] = some (cs0.map .int, [Sl.sh (.list (ns.map .int)), Sl.sh (.int top), Sl.no, Sl.no, Sl.no, Sl.no]) := by
      rw [← c1]
      simp [fVar_ap, fC_ap, fTup_ap, fLst_ap, fOp_ap, fB_ap, fCall_ap, fAnd_ap, fOr_ap, fNot_ap, fIf_ap, fV_ap, fAndV_ap, fOrV_ap, fL_ap, fDisp_ap, fSeq_ap, fEnum_ap, fZip_ap, gSh_ap, gTupF_ap, fLc_ap, fYes_ap, fNil_ap, fThen_ap, fAsg_ap, fOwn_ap, fAsgT_ap, fRet_ap, fRetF_ap, fRetN_ap, fBk_ap, fCt_ap, fDrop_ap, fIfS_ap, fFor_ap, fCallD_ap, fG1_ap, fIsi_ap, fSl_ap, fSlF_ap, fD_ap, fOwnD_ap, fDc_ap, fT_ap, fOrT_ap, fAndT_ap, fOrF_ap, storeD_ap, fPut_ap, fCallO_ap, fCallL_ap, appD_ap, fApp_ap, fDg_ap, fNegI_ap, fPar_ap, fCallKw_ap, fChain_ap, fGet2_ap, fGet1_ap, fWalk_ap, fNotT_ap, fNotV_ap, fG1F_ap, fOpF_ap, fCallF_ap, runD_ap, runO_ap, Option.bind_assoc, loopF_nil, loopF_cons, loopLc_nil, loopLc_cons, loopW_succ, items_list, items_tuple, items_sq, tupD_list, tupD_tuple, tupD_sq, lenD_list, lenD_tuple, lenD_sq, intD_int, intD_bool, absD_int, truD_none, truD_bool, truD_int, truD_list, truD_tuple, truD_sq, gIx_int, asB_bool, g1_one, g1L_one, g2i_two, gInt_two, res_d, res_bor, fz_d, fz_bor, andThen_nx, andThen_rt, andThen_ro, andThen_bk, andThen_ct, again_nx, again_ct, again_bk, again_rt, again_ro, ended_rt, ended_nx, ended_ro, endedO_ro, fzs, eA, ress, outsOf, argsD, setOuts, gsCons, gsNil, argEnv, wipeE, restE, turnLc, maxD, minD, plus_int, sub_int, int_eq, int_ne, int_lt, int_le, int_gt, int_ge, oNone, oSome, pick, atI_0, atI_1, atI_2, sl, sliceD]
      split <;> simp_all
    rw [runD_ap, fThen_ap, fOwn_ap]
    simp only [argEnv, List.length_cons, List.length_nil, List.replicate, List.cons_append, List.nil_append, Option.bind_eq_bind]
    rw [st]
    simp [fVar_ap, fC_ap, fTup_ap, fLst_ap, fOp_ap, fB_ap, fCall_ap, fAnd_ap, fOr_ap, fNot_ap, fIf_ap, fV_ap, fAndV_ap, fOrV_ap, fL_ap, fDisp_ap, fSeq_ap, fEnum_ap, fZip_ap, gSh_ap, gTupF_ap, fLc_ap, fYes_ap, fNil_ap, fThen_ap, fAsg_ap, fOwn_ap, fAsgT_ap, fRet_ap, fRetF_ap, fRetN_ap, fBk_ap, fCt_ap, fDrop_ap, fIfS_ap, fFor_ap, fCallD_ap, fG1_ap, fIsi_ap, fSl_ap, fSlF_ap, fD_ap, fOwnD_ap, fDc_ap, fT_ap, fOrT_ap, fAndT_ap, fOrF_ap, storeD_ap, fPut_ap, fCallO_ap, fCallL_ap, appD_ap, fApp_ap, fDg_ap, fNegI_ap, fPar_ap, fCallKw_ap, fChain_ap, fGet2_ap, fGet1_ap, fWalk_ap, fNotT_ap, fNotV_ap, fG1F_ap, fOpF_ap, fCallF_ap, runD_ap, runO_ap, Option.bind_assoc, loopF_nil, loopF_cons, loopLc_nil, loopLc_cons, loopW_succ, items_list, items_tuple, items_sq, tupD_list, tupD_tuple, tupD_sq, lenD_list, lenD_tuple, lenD_sq, intD_int, intD_bool, absD_int, truD_none, truD_bool, truD_int, truD_list, truD_tuple, truD_sq, gIx_int, asB_bool, g1_one, g1L_one, g2i_two, gInt_two, res_d, res_bor, fz_d, fz_bor, andThen_nx, andThen_rt, andThen_ro, andThen_bk, andThen_ct, again_nx, again_ct, again_bk, again_rt, again_ro, ended_rt, ended_nx, ended_ro, endedO_ro, fzs, eA, ress, outsOf, argsD, setOuts, gsCons, gsNil, argEnv, wipeE, restE, turnLc, maxD, minD, plus_int, sub_int, int_eq, int_ne, int_lt, int_le, int_gt, int_ge, oNone, oSome, pick, atI_0, atI_1, atI_2, e1, sliceD, enumG, em]
    rw [h1]
    simp [fVar_ap, fC_ap, fTup_ap, fLst_ap, fOp_ap, fB_ap, fCall_ap, fAnd_ap, fOr_ap, fNot_ap, fIf_ap, fV_ap, fAndV_ap, fOrV_ap, fL_ap, fDisp_ap, fSeq_ap, fEnum_ap, fZip_ap, gSh_ap, gTupF_ap, fLc_ap, fYes_ap, fNil_ap, fThen_ap, fAsg_ap, fOwn_ap, fAsgT_ap, fRet_ap, fRetF_ap, fRetN_ap, fBk_ap, fCt_ap, fDrop_ap, fIfS_ap, fFor_ap, fCallD_ap, fG1_ap, fIsi_ap, fSl_ap, fSlF_ap, fD_ap, fOwnD_ap, fDc_ap, fT_ap, fOrT_ap, fAndT_ap, fOrF_ap, storeD_ap, fPut_ap, fCallO_ap, fCallL_ap, appD_ap, fApp_ap, fDg_ap, fNegI_ap, fPar_ap, fCallKw_ap, fChain_ap, fGet2_ap, fGet1_ap, fWalk_ap, fNotT_ap, fNotV_ap, fG1F_ap, fOpF_ap, fCallF_ap, runD_ap, runO_ap, Option.bind_assoc, loopF_nil, loopF_cons, loopLc_nil, loopLc_cons, loopW_succ, items_list, items_tuple, items_sq, tupD_list, tupD_tuple, tupD_sq, lenD_list, lenD_tuple, lenD_sq, intD_int, intD_bool, absD_int, truD_none, truD_bool, truD_int, truD_list, truD_tuple, truD_sq, gIx_int, asB_bool, g1_one, g1L_one, g2i_two, gInt_two, res_d, res_bor, fz_d, fz_bor, andThen_nx, andThen_rt, andThen_ro, andThen_bk, andThen_ct, again_nx, again_ct, again_bk, again_rt, again_ro, ended_rt, ended_nx, ended_ro, endedO_ro, fzs, eA, ress, outsOf, argsD, setOuts, gsCons, gsNil, argEnv, wipeE, restE, turnLc, maxD, minD, plus_int, sub_int, int_eq, int_ne, int_lt, int_le, int_gt, int_ge, oNone, oSome, pick, atI_0, atI_1, atI_2]
  · rintro pre ⟨k, v⟩ post env ep ⟨cs, x, y, z, hl, rfl⟩
    have hm : (k, v) ∈ (List.range ys.length).zip ys := by rw [← ep]; simp
    have hk : k < ys.length := List.mem_range.mp (List.of_mem_zip hm).1
    have hc : cs.length = top := by rw [hl]; exact c4 (by omega)
    have hj : k % top < cs.length := by rw [hc]; exact Nat.mod_lt _ ht
    have md : gMod (.int (k : Int)) (.int (top : Int)) = some (.int ((k % top : Nat) : Int)) := by
      rw [mod_int (by omega)]
      rfl
    have ml := mul_int (i := v) (j := (k : Int) + 2) (mulR (by omega) (by omega))
    have ai : L2.atI (cs.map PyData.int) ((k % top : Nat) : Int) = some (.int (cs[k % top]'hj)) := atI_map PyData.int cs (k % top) hj
    have pt := put_at (ds := cs.map PyData.int) (j := k % top) (d := .int (cs[k % top]'hj + v * ((k : Int) + 2))) (by simpa using hj)
    refine ⟨[Sl.sh (.list (ns.map .int)), Sl.sh (.int top), Sl.mu false (.list ((cs.set (k % top) (cs[k % top]'hj + v * ((k : Int) + 2))).map .int)), .sh (.int k), .sh (.int v), .sh (.int ((k % top : Nat) : Int))], ?_, _, _, _, _, by simp [hl], rfl⟩
    simp only [gTupF_ap, items_tuple, Option.bind_eq_bind, Option.bind_some, List.length_cons, List.length_nil, gsCons, gsNil, gSh_ap, if_true, List.set_cons_succ, List.set_cons_zero]
    rw [fThen_ap, fAsg_ap, fOp_ap, fCall_ap]
    simp only [eA, fVar_ap, List.getElem?_cons_succ, List.getElem?_cons_zero, Option.bind_eq_bind, Option.bind_some, Option.pure_def, ress, res_d, g1_one, intD_int, md, fz_d, List.set_cons_succ, List.set_cons_zero, andThen_nx]
    rw [fPut_ap]
    simp only [fOp_ap, fC_ap, eA, fVar_ap, List.getElem?_cons_succ, List.getElem?_cons_zero, Option.bind_eq_bind, Option.bind_some, Option.pure_def, res_d, res_bor, gIx_int, items_list, ai, plus_int, ml, fz_d, muAt, storeD_ap, pt, Option.map_some, List.set_cons_succ, List.set_cons_zero, List.map_set]
/-- a box, for a number of the cells -/
theorem box_F (cs : List Int) (k : Nat) (hk : k < cs.length) (hk2 : k < 1000) : ∃ b, F__law_box [.list (cs.map .int), .int k] = some (b, []) ∧ Box 0 b ∧ ∃ xs, b = .list xs := by
  have ai : L2.atI (cs.map PyData.int) (k : Int) = some (.int (cs[k]'hk)) := atI_map PyData.int cs k hk
  have pw : gPow (.int 10) (.int 18) = some (.int (10 ^ 18)) := by
    show (if L2.CPow 10 18 then _ else none) = _
    rw [if_pos (by unfold L2.CPow; decide)]
    rfl
  have ml := mul_int (i := 39373) (j := (k : Int)) (mulL (by omega) (by omega))
  have mb : ∀ (i : Int) (p : Prop) [Decidable p], gMul (.int i) (.int (if p then 1 else 0)) = some (.int (i * (if p then 1 else 0))) := fun i p _ => mul_int (mulR (by split <;> omega) (by split <;> omega))
  have r1 : ∀ a : Int, gMod (.int a) (.int 2305843009213693951) = some (.int (a % 2305843009213693951)) := fun a => mod_int (by omega)
  have hk' : (k : Int) < (cs.length : Int) := by omega
  simp only [F__law_box, f__law_box]
  simp [fVar_ap, fC_ap, fTup_ap, fLst_ap, fOp_ap, fB_ap, fCall_ap, fAnd_ap, fOr_ap, fNot_ap, fIf_ap, fV_ap, fAndV_ap, fOrV_ap, fL_ap, fDisp_ap, fSeq_ap, fEnum_ap, fZip_ap, gSh_ap, gTupF_ap, fLc_ap, fYes_ap, fNil_ap, fThen_ap, fAsg_ap, fOwn_ap, fAsgT_ap, fRet_ap, fRetF_ap, fRetN_ap, fBk_ap, fCt_ap, fDrop_ap, fIfS_ap, fFor_ap, fCallD_ap, fG1_ap, fIsi_ap, fSl_ap, fSlF_ap, fD_ap, fOwnD_ap, fDc_ap, fT_ap, fOrT_ap, fAndT_ap, fOrF_ap, storeD_ap, fPut_ap, fCallO_ap, fCallL_ap, appD_ap, fApp_ap, fDg_ap, fNegI_ap, fPar_ap, fCallKw_ap, fChain_ap, fGet2_ap, fGet1_ap, fWalk_ap, fNotT_ap, fNotV_ap, fG1F_ap, fOpF_ap, fCallF_ap, runD_ap, runO_ap, Option.bind_assoc, loopF_nil, loopF_cons, loopLc_nil, loopLc_cons, loopW_succ, items_list, items_tuple, items_sq, tupD_list, tupD_tuple, tupD_sq, lenD_list, lenD_tuple, lenD_sq, intD_int, intD_bool, absD_int, truD_none, truD_bool, truD_int, truD_list, truD_tuple, truD_sq, gIx_int, asB_bool, g1_one, g1L_one, g2i_two, gInt_two, res_d, res_bor, fz_d, fz_bor, andThen_nx, andThen_rt, andThen_ro, andThen_bk, andThen_ct, again_nx, again_ct, again_bk, again_rt, again_ro, ended_rt, ended_nx, ended_ro, endedO_ro, fzs, eA, ress, outsOf, argsD, setOuts, gsCons, gsNil, argEnv, wipeE, restE, turnLc, maxD, minD, plus_int, sub_int, int_eq, int_ne, int_lt, int_le, int_gt, int_ge, oNone, oSome, pick, atI_0, atI_1, atI_2, hk, ai, pw, ml, r1, int_ge, mb]
  exact ⟨_, _, 0, rfl, by omega, by omega⟩
theorem boot_all (f : Nat → PyData) (n : Nat) (h : ∀ i, f i = .bool true) : allD (.list ((List.range n).map f)) = some (.bool true) := by
  have e : (List.range n).map f = (List.range n).map fun _ => PyData.bool true := List.map_congr_left fun i _ => h i
  rw [e, all_map (fun _ => true)]
  simp
theorem law_F (ns : List Int) (h : ns.length ≤ 63) (hand : F__law_by_hand_right [] = some (.bool true, [])) : F_law [.list (ns.map .int)] = some (.bool true, []) := by
  obtain ⟨cs, c1, c2, c3⟩ := cells_F ns h 3 (by omega) (by omega)
  have c1 : F__law_cells [.list (ns.map .int), .int 3] = some (.list (cs.map .int), []) := c1
  simp only [F_law, f_law]
  simp [fVar_ap, fC_ap, fTup_ap, fLst_ap, fOp_ap, fB_ap, fCall_ap, fAnd_ap, fOr_ap, fNot_ap, fIf_ap, fV_ap, fAndV_ap, fOrV_ap, fL_ap, fDisp_ap, fSeq_ap, fEnum_ap, fZip_ap, gSh_ap, gTupF_ap, fLc_ap, fYes_ap, fNil_ap, fThen_ap, fAsg_ap, fOwn_ap, fAsgT_ap, fRet_ap, fRetF_ap, fRetN_ap, fBk_ap, fCt_ap, fDrop_ap, fIfS_ap, fFor_ap, fCallD_ap, fG1_ap, fIsi_ap, fSl_ap, fSlF_ap, fD_ap, fOwnD_ap, fDc_ap, fT_ap, fOrT_ap, fAndT_ap, fOrF_ap, storeD_ap, fPut_ap, fCallO_ap, fCallL_ap, appD_ap, fApp_ap, fDg_ap, fNegI_ap, fPar_ap, fCallKw_ap, fChain_ap, fGet2_ap, fGet1_ap, fWalk_ap, fNotT_ap, fNotV_ap, fG1F_ap, fOpF_ap, fCallF_ap, runD_ap, runO_ap, Option.bind_assoc, loopF_nil, loopF_cons, loopLc_nil, loopLc_cons, loopW_succ, items_list, items_tuple, items_sq, tupD_list, tupD_tuple, tupD_sq, lenD_list, lenD_tuple, lenD_sq, intD_int, intD_bool, absD_int, truD_none, truD_bool, truD_int, truD_list, truD_tuple, truD_sq, gIx_int, asB_bool, g1_one, g1L_one, g2i_two, gInt_two, res_d, res_bor, fz_d, fz_bor, andThen_nx, andThen_rt, andThen_ro, andThen_bk, andThen_ct, again_nx, again_ct, again_bk, again_rt, again_ro, ended_rt, ended_nx, ended_ro, endedO_ro, fzs, eA, ress, outsOf, argsD, setOuts, gsCons, gsNil, argEnv, wipeE, restE, turnLc, maxD, minD, plus_int, sub_int, int_eq, int_ne, int_lt, int_le, int_gt, int_ge, oNone, oSome, pick, atI_0, atI_1, atI_2, hand, c1, rng1_nat (n := cs.length) (by omega)]
  apply lc_all_k (φ := fun _ => .bool true)
  · intro k hk
    have hk := List.mem_range.mp hk
    obtain ⟨b, b1, b2, xs, rfl⟩ := box_F cs k hk (by omega)
    obtain ⟨b', r⟩ := right_F b2
    simp [fVar_ap, fC_ap, fTup_ap, fLst_ap, fOp_ap, fB_ap, fCall_ap, fAnd_ap, fOr_ap, fNot_ap, fIf_ap, fV_ap, fAndV_ap, fOrV_ap, fL_ap, fDisp_ap, fSeq_ap, fEnum_ap, fZip_ap, gSh_ap, gTupF_ap, fLc_ap, fYes_ap, fNil_ap, fThen_ap, fAsg_ap, fOwn_ap, fAsgT_ap, fRet_ap, fRetF_ap, fRetN_ap, fBk_ap, fCt_ap, fDrop_ap, fIfS_ap, fFor_ap, fCallD_ap, fG1_ap, fIsi_ap, fSl_ap, fSlF_ap, fD_ap, fOwnD_ap, fDc_ap, fT_ap, fOrT_ap, fAndT_ap, fOrF_ap, storeD_ap, fPut_ap, fCallO_ap, fCallL_ap, appD_ap, fApp_ap, fDg_ap, fNegI_ap, fPar_ap, fCallKw_ap, fChain_ap, fGet2_ap, fGet1_ap, fWalk_ap, fNotT_ap, fNotV_ap, fG1F_ap, fOpF_ap, fCallF_ap, runD_ap, runO_ap, Option.bind_assoc, loopF_nil, loopF_cons, loopLc_nil, loopLc_cons, loopW_succ, items_list, items_tuple, items_sq, tupD_list, tupD_tuple, tupD_sq, lenD_list, lenD_tuple, lenD_sq, intD_int, intD_bool, absD_int, truD_none, truD_bool, truD_int, truD_list, truD_tuple, truD_sq, gIx_int, asB_bool, g1_one, g1L_one, g2i_two, gInt_two, res_d, res_bor, fz_d, fz_bor, andThen_nx, andThen_rt, andThen_ro, andThen_bk, andThen_ct, again_nx, again_ct, again_bk, again_rt, again_ro, ended_rt, ended_nx, ended_ro, endedO_ro, fzs, eA, ress, outsOf, argsD, setOuts, gsCons, gsNil, argEnv, wipeE, restE, turnLc, maxD, minD, plus_int, sub_int, int_eq, int_ne, int_lt, int_le, int_gt, int_ge, oNone, oSome, pick, atI_0, atI_1, atI_2, b1, r]
  · have := all_map (fun _ : Nat => true) (List.range cs.length)
    simp [fVar_ap, fC_ap, fTup_ap, fLst_ap, fOp_ap, fB_ap, fCall_ap, fAnd_ap, fOr_ap, fNot_ap, fIf_ap, fV_ap, fAndV_ap, fOrV_ap, fL_ap, fDisp_ap, fSeq_ap, fEnum_ap, fZip_ap, gSh_ap, gTupF_ap, fLc_ap, fYes_ap, fNil_ap, fThen_ap, fAsg_ap, fOwn_ap, fAsgT_ap, fRet_ap, fRetF_ap, fRetN_ap, fBk_ap, fCt_ap, fDrop_ap, fIfS_ap, fFor_ap, fCallD_ap, fG1_ap, fIsi_ap, fSl_ap, fSlF_ap, fD_ap, fOwnD_ap, fDc_ap, fT_ap, fOrT_ap, fAndT_ap, fOrF_ap, storeD_ap, fPut_ap, fCallO_ap, fCallL_ap, appD_ap, fApp_ap, fDg_ap, fNegI_ap, fPar_ap, fCallKw_ap, fChain_ap, fGet2_ap, fGet1_ap, fWalk_ap, fNotT_ap, fNotV_ap, fG1F_ap, fOpF_ap, fCallF_ap, runD_ap, runO_ap, Option.bind_assoc, loopF_nil, loopF_cons, loopLc_nil, loopLc_cons, loopW_succ, items_list, items_tuple, items_sq, tupD_list, tupD_tuple, tupD_sq, lenD_list, lenD_tuple, lenD_sq, intD_int, intD_bool, absD_int, truD_none, truD_bool, truD_int, truD_list, truD_tuple, truD_sq, gIx_int, asB_bool, g1_one, g1L_one, g2i_two, gInt_two, res_d, res_bor, fz_d, fz_bor, andThen_nx, andThen_rt, andThen_ro, andThen_bk, andThen_ct, again_nx, again_ct, again_bk, again_rt, again_ro, ended_rt, ended_nx, ended_ro, endedO_ro, fzs, eA, ress, outsOf, argsD, setOuts, gsCons, gsNil, argEnv, wipeE, restE, turnLc, maxD, minD, plus_int, sub_int, int_eq, int_ne, int_lt, int_le, int_gt, int_ge, oNone, oSome, pick, atI_0, atI_1, atI_2, this]
end K03

set_option Elab.async false
set_option linter.all false
set_option maxRecDepth 100000
set_option maxHeartbeats 0
namespace K03
open PySem PySem.Spec PyProof.Rows L2 L2.Lp
def dd__law_cells : He.DefD := ⟨("_law_cells", none), "_law_cells", "_law_cells", defArgs s__law_cells, defBody s__law_cells, defScope s__law_cells, [], []⟩
def dd_keeps : He.DefD := ⟨("keeps", none), "keeps", "keeps", defArgs s_keeps, defBody s_keeps, defScope s_keeps, [], []⟩
def dd_plain_parts : He.DefD := ⟨("plain_parts", none), "plain_parts", "plain_parts", defArgs s_plain_parts, defBody s_plain_parts, defScope s_plain_parts, [], []⟩
def dd_all_parts : He.DefD := ⟨("all_parts", none), "all_parts", "all_parts", defArgs s_all_parts, defBody s_all_parts, defScope s_all_parts, [], []⟩
def dd_spots_of : He.DefD := ⟨("spots_of", none), "spots_of", "spots_of", defArgs s_spots_of, defBody s_spots_of, defScope s_spots_of, [], []⟩
def dd_is_in : He.DefD := ⟨("is_in", none), "is_in", "is_in", defArgs s_is_in, defBody s_is_in, defScope s_is_in, [], []⟩
def dd_let_spots : He.DefD := ⟨("let_spots", none), "let_spots", "let_spots", defArgs s_let_spots, defBody s_let_spots, defScope s_let_spots, [], []⟩
def dd_as_tuples : He.DefD := ⟨("as_tuples", none), "as_tuples", "as_tuples", defArgs s_as_tuples, defBody s_as_tuples, defScope s_as_tuples, [], []⟩
def dd_plain_cut : He.DefD := ⟨("plain_cut", none), "plain_cut", "plain_cut", defArgs s_plain_cut, defBody s_plain_cut, defScope s_plain_cut, [], []⟩
def dd__law_same : He.DefD := ⟨("_law_same", none), "_law_same", "_law_same", defArgs s__law_same, defBody s__law_same, defScope s__law_same, [], []⟩
def dd__law_three : He.DefD := ⟨("_law_three", none), "_law_three", "_law_three", defArgs s__law_three, defBody s__law_three, defScope s__law_three, [], []⟩
def dd__law_spots : He.DefD := ⟨("_law_spots", none), "_law_spots", "_law_spots", defArgs s__law_spots, defBody s__law_spots, defScope s__law_spots, [], []⟩
def dd_land_of : He.DefD := ⟨("land_of", none), "land_of", "land_of", defArgs s_land_of, defBody s_land_of, defScope s_land_of, [], []⟩
def dd__law_lists : He.DefD := ⟨("_law_lists", none), "_law_lists", "_law_lists", defArgs s__law_lists, defBody s__law_lists, defScope s__law_lists, [], []⟩
def dd__law_by_hand_right : He.DefD := ⟨("_law_by_hand_right", none), "_law_by_hand_right", "_law_by_hand_right", defArgs s__law_by_hand_right, defBody s__law_by_hand_right, defScope s__law_by_hand_right, [], []⟩
def dd__law_take : He.DefD := ⟨("_law_take", none), "_law_take", "_law_take", defArgs s__law_take, defBody s__law_take, defScope s__law_take, [], []⟩
def dd__law_clause : He.DefD := ⟨("_law_clause", none), "_law_clause", "_law_clause", defArgs s__law_clause, defBody s__law_clause, defScope s__law_clause, [], []⟩
def dd__law_of : He.DefD := ⟨("_law_of", none), "_law_of", "_law_of", defArgs s__law_of, defBody s__law_of, defScope s__law_of, [], []⟩
def dd__law_chart : He.DefD := ⟨("_law_chart", none), "_law_chart", "_law_chart", defArgs s__law_chart, defBody s__law_chart, defScope s__law_chart, [], []⟩
def dd__law_in : He.DefD := ⟨("_law_in", none), "_law_in", "_law_in", defArgs s__law_in, defBody s__law_in, defScope s__law_in, [], []⟩
def dd__law_let : He.DefD := ⟨("_law_let", none), "_law_let", "_law_let", defArgs s__law_let, defBody s__law_let, defScope s__law_let, [], []⟩
def dd__law_land : He.DefD := ⟨("_law_land", none), "_law_land", "_law_land", defArgs s__law_land, defBody s__law_land, defScope s__law_land, [], []⟩
def dd__law_parted : He.DefD := ⟨("_law_parted", none), "_law_parted", "_law_parted", defArgs s__law_parted, defBody s__law_parted, defScope s__law_parted, [], []⟩
def dd_lookup : He.DefD := ⟨("lookup", none), "lookup", "lookup", defArgs s_lookup, defBody s_lookup, defScope s_lookup, [], []⟩
def dd_is_ascending : He.DefD := ⟨("is_ascending", none), "is_ascending", "is_ascending", defArgs s_is_ascending, defBody s_is_ascending, defScope s_is_ascending, [], []⟩
def dd_is_row : He.DefD := ⟨("is_row", none), "is_row", "is_row", defArgs s_is_row, defBody s_is_row, defScope s_is_row, [], []⟩
def dd_is_side : He.DefD := ⟨("is_side", none), "is_side", "is_side", defArgs s_is_side, defBody s_is_side, defScope s_is_side, [], []⟩
def dd_is_condition_over : He.DefD := ⟨("is_condition_over", none), "is_condition_over", "is_condition_over", defArgs s_is_condition_over, defBody s_is_condition_over, defScope s_is_condition_over, [], []⟩
def dd_is_cut : He.DefD := ⟨("is_cut", none), "is_cut", "is_cut", defArgs s_is_cut, defBody s_is_cut, defScope s_is_cut, [], []⟩
def dd__law_case_right : He.DefD := ⟨("_law_case_right", none), "_law_case_right", "_law_case_right", defArgs s__law_case_right, defBody s__law_case_right, defScope s__law_case_right, [], []⟩
def dd__law_cut : He.DefD := ⟨("_law_cut", none), "_law_cut", "_law_cut", defArgs s__law_cut, defBody s__law_cut, defScope s__law_cut, [], []⟩
def dd__law_right : He.DefD := ⟨("_law_right", none), "_law_right", "_law_right", defArgs s__law_right, defBody s__law_right, defScope s__law_right, [], []⟩
def dd__law_box : He.DefD := ⟨("_law_box", none), "_law_box", "_law_box", defArgs s__law_box, defBody s__law_box, defScope s__law_box, [], []⟩
def dd_law : He.DefD := ⟨("law", none), "law", "law", defArgs s_law, defBody s_law, defScope s_law, [], []⟩
def hfn : List He.DefD := [dd__law_cells, dd_keeps, dd_plain_parts, dd_all_parts, dd_spots_of, dd_is_in, dd_let_spots, dd_as_tuples, dd_plain_cut, dd__law_same, dd__law_three, dd__law_spots, dd_land_of, dd__law_lists, dd__law_by_hand_right, dd__law_take, dd__law_clause, dd__law_of, dd__law_chart, dd__law_in, dd__law_let, dd__law_land, dd__law_parted, dd_lookup, dd_is_ascending, dd_is_row, dd_is_side, dd_is_condition_over, dd_is_cut, dd__law_case_right, dd__law_cut, dd__law_right, dd__law_box, dd_law]
def hfa : List He.Fa := [.glo "_law_cells", .glo "keeps", .glo "plain_parts", .glo "all_parts", .glo "spots_of", .glo "is_in", .glo "let_spots", .glo "as_tuples", .glo "plain_cut", .glo "_law_same", .glo "_law_three", .glo "_law_spots", .glo "land_of", .glo "_law_lists", .glo "_law_by_hand_right", .glo "_law_take", .glo "_law_clause", .glo "_law_of", .glo "_law_chart", .glo "_law_in", .glo "_law_let", .glo "_law_land", .glo "_law_parted", .glo "lookup", .glo "is_ascending", .glo "is_row", .glo "is_side", .glo "is_condition_over", .glo "is_cut", .glo "_law_case_right", .glo "_law_cut", .glo "_law_right", .glo "_law_box", .glo "law", .free "list", .free "enumerate", .free "int", .free "all", .free "len", .free "sorted", .free "tuple", .free "any", .free "isinstance", .free "zip", .free "str", .free "bool", .free "max", .free "range", .free "set", .free "abs"]
abbrev R : PySem.W.OpenRow := PySem.W.OpenLaw.row PySem.Challenge.rw_landpoints_k03_plain_cuts
abbrev hk : PySem.W.Hook := He.hookD 4 hfa hfn
def ob (s : PySem.W.SharedT) : He.AlD := He.obsDG 4 hfa hfn (HandSHeadRun.getT s)
theorem ob_eq (s : PySem.W.SharedT) : ob s = hk.obs s.abs := He.obsDG_eq (HandSHeadRun.getT_eq s)
def hLoose : List Str := (["__name__", "as_tuples", "all_parts", "is_row", "is_ascending", "is_cut", "spots_of", "keeps", "is_in", "let_spots", "land_of", "plain_cut", "lookup", "is_condition_over", "is_side", "plain_parts", "_law_box", "_law_take", "_law_cells", "_law_same", "_law_lists", "_law_of", "_law_spots", "_law_in", "_law_let", "_law_land", "_law_clause", "_law_cut", "_law_chart", "_law_three"] : List Str) ++ (["_law_parted", "_law_case_right", "_law_by_hand_right", "_law_right"] : List Str)
theorem run (w : World) : HandSHeadRun.RunEq R (PySem.W.view R.prog [36]) hk ob 4000 hLoose w := by
  intro os
  kernel_rfl
theorem env {K : PySem.W.Frag} {h : Heap} {mg : Str → Option Value} (X : K.In h) (G : h.Ns mainGlobals mg) (c : He.SaysD hfa hfn K) : Env K mg where
  n_list := He.free_ok X G (c.fact 34 (f := .free "list") rfl)
  n_enumerate := He.free_ok X G (c.fact 35 (f := .free "enumerate") rfl)
  n_int := He.free_ok X G (c.fact 36 (f := .free "int") rfl)
  n_all := He.free_ok X G (c.fact 37 (f := .free "all") rfl)
  n_len := He.free_ok X G (c.fact 38 (f := .free "len") rfl)
  n_sorted := He.free_ok X G (c.fact 39 (f := .free "sorted") rfl)
  n_tuple := He.free_ok X G (c.fact 40 (f := .free "tuple") rfl)
  n_any := He.free_ok X G (c.fact 41 (f := .free "any") rfl)
  n_isinstance := He.free_ok X G (c.fact 42 (f := .free "isinstance") rfl)
  n_zip := He.free_ok X G (c.fact 43 (f := .free "zip") rfl)
  n_str := He.free_ok X G (c.fact 44 (f := .free "str") rfl)
  n_bool := He.free_ok X G (c.fact 45 (f := .free "bool") rfl)
  n_max := He.free_ok X G (c.fact 46 (f := .free "max") rfl)
  n_range := He.free_ok X G (c.fact 47 (f := .free "range") rfl)
  n_set := He.free_ok X G (c.fact 48 (f := .free "set") rfl)
  n_abs := He.free_ok X G (c.fact 49 (f := .free "abs") rfl)
  d__law_cells := by
    obtain ⟨fd, F⟩ := c.def_ 0 (d := dd__law_cells) rfl
    exact ⟨_, fd, F, He.glo_ok X G (c.fact 0 (f := .glo "_law_cells") rfl)⟩
  d_keeps := by
    obtain ⟨fd, F⟩ := c.def_ 1 (d := dd_keeps) rfl
    exact ⟨_, fd, F, He.glo_ok X G (c.fact 1 (f := .glo "keeps") rfl)⟩
  d_plain_parts := by
    obtain ⟨fd, F⟩ := c.def_ 2 (d := dd_plain_parts) rfl
    exact ⟨_, fd, F, He.glo_ok X G (c.fact 2 (f := .glo "plain_parts") rfl)⟩
  d_all_parts := by
    obtain ⟨fd, F⟩ := c.def_ 3 (d := dd_all_parts) rfl
    exact ⟨_, fd, F, He.glo_ok X G (c.fact 3 (f := .glo "all_parts") rfl)⟩
  d_spots_of := by
    obtain ⟨fd, F⟩ := c.def_ 4 (d := dd_spots_of) rfl
    exact ⟨_, fd, F, He.glo_ok X G (c.fact 4 (f := .glo "spots_of") rfl)⟩
  d_is_in := by
    obtain ⟨fd, F⟩ := c.def_ 5 (d := dd_is_in) rfl
    exact ⟨_, fd, F, He.glo_ok X G (c.fact 5 (f := .glo "is_in") rfl)⟩
  d_let_spots := by
    obtain ⟨fd, F⟩ := c.def_ 6 (d := dd_let_spots) rfl
    exact ⟨_, fd, F, He.glo_ok X G (c.fact 6 (f := .glo "let_spots") rfl)⟩
  d_as_tuples := by
    obtain ⟨fd, F⟩ := c.def_ 7 (d := dd_as_tuples) rfl
    exact ⟨_, fd, F, He.glo_ok X G (c.fact 7 (f := .glo "as_tuples") rfl)⟩
  d_plain_cut := by
    obtain ⟨fd, F⟩ := c.def_ 8 (d := dd_plain_cut) rfl
    exact ⟨_, fd, F, He.glo_ok X G (c.fact 8 (f := .glo "plain_cut") rfl)⟩
  d__law_same := by
    obtain ⟨fd, F⟩ := c.def_ 9 (d := dd__law_same) rfl
    exact ⟨_, fd, F, He.glo_ok X G (c.fact 9 (f := .glo "_law_same") rfl)⟩
  d__law_three := by
    obtain ⟨fd, F⟩ := c.def_ 10 (d := dd__law_three) rfl
    exact ⟨_, fd, F, He.glo_ok X G (c.fact 10 (f := .glo "_law_three") rfl)⟩
  d__law_spots := by
    obtain ⟨fd, F⟩ := c.def_ 11 (d := dd__law_spots) rfl
    exact ⟨_, fd, F, He.glo_ok X G (c.fact 11 (f := .glo "_law_spots") rfl)⟩
  d_land_of := by
    obtain ⟨fd, F⟩ := c.def_ 12 (d := dd_land_of) rfl
    exact ⟨_, fd, F, He.glo_ok X G (c.fact 12 (f := .glo "land_of") rfl)⟩
  d__law_lists := by
    obtain ⟨fd, F⟩ := c.def_ 13 (d := dd__law_lists) rfl
    exact ⟨_, fd, F, He.glo_ok X G (c.fact 13 (f := .glo "_law_lists") rfl)⟩
  d__law_by_hand_right := by
    obtain ⟨fd, F⟩ := c.def_ 14 (d := dd__law_by_hand_right) rfl
    exact ⟨_, fd, F, He.glo_ok X G (c.fact 14 (f := .glo "_law_by_hand_right") rfl)⟩
  d__law_take := by
    obtain ⟨fd, F⟩ := c.def_ 15 (d := dd__law_take) rfl
    exact ⟨_, fd, F, He.glo_ok X G (c.fact 15 (f := .glo "_law_take") rfl)⟩
  d__law_clause := by
    obtain ⟨fd, F⟩ := c.def_ 16 (d := dd__law_clause) rfl
    exact ⟨_, fd, F, He.glo_ok X G (c.fact 16 (f := .glo "_law_clause") rfl)⟩
  d__law_of := by
    obtain ⟨fd, F⟩ := c.def_ 17 (d := dd__law_of) rfl
    exact ⟨_, fd, F, He.glo_ok X G (c.fact 17 (f := .glo "_law_of") rfl)⟩
  d__law_chart := by
    obtain ⟨fd, F⟩ := c.def_ 18 (d := dd__law_chart) rfl
    exact ⟨_, fd, F, He.glo_ok X G (c.fact 18 (f := .glo "_law_chart") rfl)⟩
  d__law_in := by
    obtain ⟨fd, F⟩ := c.def_ 19 (d := dd__law_in) rfl
    exact ⟨_, fd, F, He.glo_ok X G (c.fact 19 (f := .glo "_law_in") rfl)⟩
  d__law_let := by
    obtain ⟨fd, F⟩ := c.def_ 20 (d := dd__law_let) rfl
    exact ⟨_, fd, F, He.glo_ok X G (c.fact 20 (f := .glo "_law_let") rfl)⟩
  d__law_land := by
    obtain ⟨fd, F⟩ := c.def_ 21 (d := dd__law_land) rfl
    exact ⟨_, fd, F, He.glo_ok X G (c.fact 21 (f := .glo "_law_land") rfl)⟩
  d__law_parted := by
    obtain ⟨fd, F⟩ := c.def_ 22 (d := dd__law_parted) rfl
    exact ⟨_, fd, F, He.glo_ok X G (c.fact 22 (f := .glo "_law_parted") rfl)⟩
  d_lookup := by
    obtain ⟨fd, F⟩ := c.def_ 23 (d := dd_lookup) rfl
    exact ⟨_, fd, F, He.glo_ok X G (c.fact 23 (f := .glo "lookup") rfl)⟩
  d_is_ascending := by
    obtain ⟨fd, F⟩ := c.def_ 24 (d := dd_is_ascending) rfl
    exact ⟨_, fd, F, He.glo_ok X G (c.fact 24 (f := .glo "is_ascending") rfl)⟩
  d_is_row := by
    obtain ⟨fd, F⟩ := c.def_ 25 (d := dd_is_row) rfl
    exact ⟨_, fd, F, He.glo_ok X G (c.fact 25 (f := .glo "is_row") rfl)⟩
  d_is_side := by
    obtain ⟨fd, F⟩ := c.def_ 26 (d := dd_is_side) rfl
    exact ⟨_, fd, F, He.glo_ok X G (c.fact 26 (f := .glo "is_side") rfl)⟩
  d_is_condition_over := by
    obtain ⟨fd, F⟩ := c.def_ 27 (d := dd_is_condition_over) rfl
    exact ⟨_, fd, F, He.glo_ok X G (c.fact 27 (f := .glo "is_condition_over") rfl)⟩
  d_is_cut := by
    obtain ⟨fd, F⟩ := c.def_ 28 (d := dd_is_cut) rfl
    exact ⟨_, fd, F, He.glo_ok X G (c.fact 28 (f := .glo "is_cut") rfl)⟩
  d__law_case_right := by
    obtain ⟨fd, F⟩ := c.def_ 29 (d := dd__law_case_right) rfl
    exact ⟨_, fd, F, He.glo_ok X G (c.fact 29 (f := .glo "_law_case_right") rfl)⟩
  d__law_cut := by
    obtain ⟨fd, F⟩ := c.def_ 30 (d := dd__law_cut) rfl
    exact ⟨_, fd, F, He.glo_ok X G (c.fact 30 (f := .glo "_law_cut") rfl)⟩
  d__law_right := by
    obtain ⟨fd, F⟩ := c.def_ 31 (d := dd__law_right) rfl
    exact ⟨_, fd, F, He.glo_ok X G (c.fact 31 (f := .glo "_law_right") rfl)⟩
  d__law_box := by
    obtain ⟨fd, F⟩ := c.def_ 32 (d := dd__law_box) rfl
    exact ⟨_, fd, F, He.glo_ok X G (c.fact 32 (f := .glo "_law_box") rfl)⟩
  d_law := by
    obtain ⟨fd, F⟩ := c.def_ 33 (d := dd_law) rfl
    exact ⟨_, fd, F, He.glo_ok X G (c.fact 33 (f := .glo "law") rfl)⟩
end K03
open PySem PySem.W PySem.Calls PyProof.Rows L2 L2.Lp
theorem dqAll_ints (K : PySem.W.Frag) (H : Hp) : ∀ ns : List Int, DqAll K H (ns.map V.int) (ns.map .int)
  | [] => .nil
  | n :: ns => .cons (.int n) (dqAll_ints K H ns)
theorem by_hand : K03.F__law_by_hand_right [] = some (.bool true, []) := by kernel_rfl
theorem law_true (ns : List Int) (h : ns.length ≤ 63) : K03.F_law [.list (ns.map .int)] = some (.bool true, []) := K03.law_F ns h by_hand
theorem PySem.Challenge.cw_landpoints_k03_plain_cuts_holds : PySem.Challenge.rw_landpoints_k03_plain_cuts.Holds := by
  w_on; o_law
  refine HandSHeadRun.head_any (r := OpenLaw.row PySem.Challenge.rw_landpoints_k03_plain_cuts) (q := view (OpenLaw.row PySem.Challenge.rw_landpoints_k03_plain_cuts).prog [36]) (H := K03.hk) (ob := K03.ob) (M := 4000) (loose := K03.hLoose) (d := HandSHeadRun.topDef (OpenLaw.row PySem.Challenge.rw_landpoints_k03_plain_cuts).prog 36) (kwd := []) K03.ob_eq
    (by kernel_rfl) (fun s => by kernel_rfl) K03.run (by kernel_rfl) (by kernel_rfl) (by kernel_rfl) (by rfl) (by first | assumption | decide +kernel) (by decide +kernel) ⟨rfl, rfl, rfl, rfl, rfl, by decide +kernel⟩ ?hw ?hc
  case hw => w_witness2
  case hc =>
    refine L2.walk_ofE (l := PySem.Challenge.rw_landpoints_k03_plain_cuts) (n := 63) (k := 14) (x := "_law_script") (CX := L2.CX0) rfl (by decide) (by kernel_rfl) ⟨rfl, by decide, by decide⟩ ?F (fun _ _ _ _ z => z)
    intro w mg fa h Y G hmg0
    obtain ⟨K, KX, c⟩ := Y
    have hmg : mg ("law" : PySem.Str) = some (.ref fa) := by
      have e : (HandSHeadRun.topDef (OpenLaw.row PySem.Challenge.rw_landpoints_k03_plain_cuts).prog 36).name = ("law" : PySem.Str) := by kernel_rfl
      rw [← e]
      exact hmg0
    have E := K03.env KX G c
    obtain ⟨f, fd, F, g⟩ := E.d_law
    rw [hmg] at g
    cases g
    have b := FunD.bindsA (ps := ["_law_script"]) F fun _ _ _ _ _ _ us hl => match us, hl with | [_], _ => rfl
    refine ⟨K, fd, spD K [false] K03.F_law, KX, fun s v => b s [v] rfl, fun H a ns hl hO hS => ?_, fun base _ _ => K03.ok_law E F⟩
    refine ⟨fun _ => False, [.list (ns.map .int)], [], .bool true, [], .sh (.lst (same_sqL (fun b o e => hid_some.mpr ⟨id, e⟩) hS) (by rw [List.length_map, PySem.sizeLine_eq]; omega) (dqAll_ints K _ ns)) .nil, fun _ z => z.elim, law_true ns hl, fun v H' _ hd _ => ?_⟩
    cases hd
    rfl
