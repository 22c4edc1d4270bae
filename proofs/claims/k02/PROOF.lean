import PyProof.Rows.All
import Wide.All
import OpenK.AllK
import Wide.FinOn
import HandS.ForMost
import HandS.SetFor
import HandS.IsInst
import HandS.Flow
import HandS.Style
import HandS.Conv
import HandS.AnyAll
import HandS.Walk
import KE.KDictKeyed
import KE.KDictCopyH
import KE.KTupTabMore
import PySem.Challenge.RW_lietable_k02_votes
set_option Elab.async false
set_option linter.all false
set_option maxRecDepth 100000
set_option maxHeartbeats 4000000
/-! Lt, part A: what grows, what stands; dicts by their own object. -/
namespace Lt
open PySem PySem.Spec PyProof.Rows L2

/-! ### heaps that grow -/
def isTbl : HO → Bool
  | .tbl _ => true
  | _ => false
/-- all that is tracked stands as it stood; a code table may have grown -/
structure Le (H H' : Hp) : Prop where
  ob : ∀ a o, H a = some o → isTbl o = false → H' a = some o
  tb : ∀ a ps, H a = some (.tbl ps) → ∃ qs, H' a = some (.tbl qs) ∧ (TriplesOk ps.toList → TriplesOk qs.toList)
theorem Le.refl (H : Hp) : Le H H := ⟨fun _ _ h _ => h, fun _ ps h => ⟨ps, h, id⟩⟩
theorem Le.trans {H H1 H2 : Hp} (p : Le H H1) (q : Le H1 H2) : Le H H2 :=
  ⟨fun a o h n => q.ob a o (p.ob a o h n) n, fun a ps h => by
    obtain ⟨qs, h1, t1⟩ := p.tb a ps h
    obtain ⟨rs, h2, t2⟩ := q.tb a qs h1
    exact ⟨rs, h2, fun t => t2 (t1 t)⟩⟩
theorem Le.back {H H' : Hp} (p : Le H H') {a : Addr} (h : H' a = none) : H a = none := by
  cases q : H a with
  | none => rfl
  | some o =>
    cases ht : isTbl o with
    | false =>
      rw [p.ob a o q ht] at h
      cases h
    | true =>
      cases o with
      | tbl ps =>
        obtain ⟨qs, h1, _⟩ := p.tb a ps q
        rw [h1] at h
        cases h
      | _ => cases ht
theorem Le.new {H : Hp} {p : Addr} {o : HO} (h : H p = none) : Le H (upd H p o) :=
  ⟨fun a u e _ => by rw [upd_ne (ne_of_none e h)]; exact e, fun a ps e => ⟨ps, by rw [upd_ne (ne_of_none e h)]; exact e, id⟩⟩
/-- what was not there ahead may be written -/
theorem Le.mut {H H' : Hp} {p : Addr} {o : HO} (e : Le H H') (h : H p = none) : Le H (upd H' p o) :=
  ⟨fun a u ha n => by rw [upd_ne (ne_of_none ha h)]; exact e.ob a u ha n, fun a ps ha => by rw [upd_ne (ne_of_none ha h)]; exact e.tb a ps ha⟩
theorem Le.lst {H H' : Hp} (p : Le H H') {a : Addr} {xs : List V} (h : H a = some (.lst xs)) : H' a = some (.lst xs) := p.ob a _ h rfl
theorem Le.tup {H H' : Hp} (p : Le H H') {a : Addr} {xs : List V} (h : H a = some (.tup xs)) : H' a = some (.tup xs) := p.ob a _ h rfl
theorem Le.ext {H H' : Hp} (p : Le H H') {a : Addr} {f : Heap → Prop} (h : H a = some (.ext f)) : H' a = some (.ext f) := p.ob a _ h rfl
theorem Le.ins {H H' : Hp} (p : Le H H') {a C d : Addr} {fs : List (Str × V)} (h : H a = some (.ins C d fs)) : H' a = some (.ins C d fs) := p.ob a _ h rfl
theorem Le.frz {H H' : Hp} (p : Le H H') {a : Addr} {o : Obj} {u : HO} (h : H a = some (.frz o u)) : H' a = some (.frz o u) := p.ob a _ h rfl
theorem Le.rd {H H' : Hp} (p : Le H H') {a : Addr} {u : HO} (n : isTbl u = false) (h : Rd H a u) : Rd H' a u := by
  rcases h with h | ⟨o, h⟩
  · exact .inl (p.ob a _ h n)
  · exact .inr ⟨o, p.frz h⟩
theorem Le.sql {K : PySem.W.Frag} {H H' : Hp} (p : Le H H') {a : Addr} {xs : List V} (h : SqL K H a xs) : SqL K H' a xs := by
  rcases h with h | h
  · exact .inl (p.rd rfl h)
  · exact .inr h
theorem Le.sqt {K : PySem.W.Frag} {H H' : Hp} (p : Le H H') {a : Addr} {xs : List V} (h : SqT K H a xs) : SqT K H' a xs := by
  rcases h with h | h
  · exact .inl (p.rd rfl h)
  · exact .inr h
theorem Le.same {H H' : Hp} (s : Same H H') : Le H H' := ⟨fun a o h _ => s a o h, fun a ps h => ⟨ps, s a _ h, id⟩⟩

/-! ### a thing by its very object -/
def raw (a : Addr) (o : Obj) : HO := .ext fun h => h.get? a = some o
theorem raw_ok {P : Program} {w : World} {H : Hp} {h : Heap} {a : Addr} {o : Obj} (e : h.get? a = some o) : ObjOk P w H h a (raw a o) :=
  ⟨e, ⟨o, e⟩, fun _ _ p k => k o p⟩
theorem raw_get {P : Program} {w : World} {H : Hp} {h : Heap} {a : Addr} {o : Obj} (ok : HOk P w H h) (e : H a = some (raw a o)) : h.get? a = some o := (ok a _ e).1

section
variable {X : Cx} {pins : List (Addr × Obj)} {σ : L2.St} {H : Hp} {s : Shared} {a : Addr}
/-- a tracked dict's object is replaced -/
theorem Inv.rawset {o o' : Obj} {h' : Heap} {t' : Nat} (I : Inv X pins σ H s) (e : H a = some (raw a o)) (hs : Heap.SameBut a s.heap h') (he : h'.get? a = some o') :
    Inv X pins σ (upd H a (raw a o')) { s with heap := h', toks := t' } :=
  I.write (x := a) (e := a) (by rw [e]; exact True.intro) (.inl rfl) (fun b q hb z => (hs.2 b hb).trans z) ⟨o', he⟩ (raw_ok he)
theorem Inv.rawnew {o : Obj} {h' : Heap} {t' : Nat} (I : Inv X pins σ H s) (k : ∀ b u, s.heap.get? b = some u → h'.get? b = some u) (hp : s.heap.objs.size ≤ a) (he : h'.get? a = some o) :
    Inv X pins σ (upd H a (raw a o)) { s with heap := h', toks := t' } := I.laid k hp (raw_ok he)
end
theorem nosys {X : Cx} {pins : List (Addr × Obj)} {σ : L2.St} {H : Hp} {s : Shared} (I : Inv X pins σ H s) {a : Addr} (h : s.heap.objs.size ≤ a) : (a == sysModules) = false :=
  beq_eq_false_iff_ne.mpr (Ne.symm (Nat.ne_of_lt (Nat.lt_of_lt_of_le I.big h)))

/-! ### data that never changes: a whole number, a text, nothing, a tuple of such -/
abbrev D := NestedKey
mutual
/-- the value v is the datum d -/
def At (H : Hp) : D → V → Prop
  | .none, v => v = .non
  | .num i, v => v = .int i
  | .text x, v => v = .str x
  | .tup ks, v => ∃ b xs, v = .ref b ∧ H b = some (.tup xs) ∧ Ats H ks xs
def Ats (H : Hp) : List D → List V → Prop
  | [], xs => xs = []
  | k :: ks, xs => ∃ v r, xs = v :: r ∧ At H k v ∧ Ats H ks r
end
mutual
theorem At.keep {H H' : Hp} (k : ∀ a xs, H a = some (.tup xs) → H' a = some (.tup xs)) : ∀ (d : D) (v : V), At H d v → At H' d v
  | .none, _, h => h
  | .num _, _, h => h
  | .text _, _, h => h
  | .tup ks, v, h => by
    rw [At] at h
    obtain ⟨b, xs, e, hb, hs⟩ := h
    rw [At]
    exact ⟨b, xs, e, k b xs hb, Ats.keep k ks xs hs⟩
theorem Ats.keep {H H' : Hp} (k : ∀ a xs, H a = some (.tup xs) → H' a = some (.tup xs)) : ∀ (ds : List D) (vs : List V), Ats H ds vs → Ats H' ds vs
  | [], _, h => h
  | d :: ds, vs, h => by
    rw [Ats] at h
    obtain ⟨v, r, e, h1, h2⟩ := h
    rw [Ats]
    exact ⟨v, r, e, At.keep k d v h1, Ats.keep k ds r h2⟩
end
mutual
theorem At.inj {H : Hp} : ∀ (d e : D) (v : V), At H d v → At H e v → d = e
  | .none, e, v, h1, h2 => by
    rw [At] at h1
    subst h1
    cases e with
    | none => rfl
    | num i => rw [At] at h2; cases h2
    | text x => rw [At] at h2; cases h2
    | tup ks => rw [At] at h2; obtain ⟨_, _, q, _⟩ := h2; cases q
  | .num i, e, v, h1, h2 => by
    rw [At] at h1
    subst h1
    cases e with
    | none => rw [At] at h2; cases h2
    | num j => rw [At] at h2; cases h2; rfl
    | text x => rw [At] at h2; cases h2
    | tup ks => rw [At] at h2; obtain ⟨_, _, q, _⟩ := h2; cases q
  | .text x, e, v, h1, h2 => by
    rw [At] at h1
    subst h1
    cases e with
    | none => rw [At] at h2; cases h2
    | num j => rw [At] at h2; cases h2
    | text y => rw [At] at h2; cases h2; rfl
    | tup ks => rw [At] at h2; obtain ⟨_, _, q, _⟩ := h2; cases q
  | .tup ks, e, v, h1, h2 => by
    rw [At] at h1
    obtain ⟨b, xs, q, hb, hs⟩ := h1
    subst q
    cases e with
    | none => rw [At] at h2; cases h2
    | num j => rw [At] at h2; cases h2
    | text y => rw [At] at h2; cases h2
    | tup ls =>
      rw [At] at h2
      obtain ⟨b', xs', q', hb', hs'⟩ := h2
      cases q'
      rw [hb] at hb'
      cases hb'
      rw [Ats.inj ks ls xs hs hs']
theorem Ats.inj {H : Hp} : ∀ (d e : List D) (v : List V), Ats H d v → Ats H e v → d = e
  | [], e, v, h1, h2 => by
    rw [Ats] at h1
    subst h1
    cases e with
    | nil => rfl
    | cons a as => rw [Ats] at h2; obtain ⟨_, _, q, _⟩ := h2; cases q
  | d :: ds, e, v, h1, h2 => by
    rw [Ats] at h1
    obtain ⟨x, r, q, ha, hs⟩ := h1
    subst q
    cases e with
    | nil => rw [Ats] at h2; cases h2
    | cons a as =>
      rw [Ats] at h2
      obtain ⟨x', r', q', ha', hs'⟩ := h2
      cases q'
      rw [At.inj d a x ha ha', Ats.inj ds as r hs hs']
end
theorem At.le {H H' : Hp} (l : Le H H') {d : D} {v : V} (h : At H d v) : At H' d v := At.keep (fun _ _ e => l.tup e) d v h
theorem Ats.le {H H' : Hp} (l : Le H H') {d : List D} {v : List V} (h : Ats H d v) : Ats H' d v := Ats.keep (fun _ _ e => l.tup e) d v h
theorem At.int {H : Hp} {i : Int} : At H (.num i) (.int i) := by rw [At]
theorem At.str {H : Hp} {x : Str} : At H (.text x) (.str x) := by rw [At]
theorem At.non {H : Hp} : At H .none .non := by rw [At]
theorem At.tup {H : Hp} {ks : List D} {b : Addr} {xs : List V} (hb : H b = some (.tup xs)) (h : Ats H ks xs) : At H (.tup ks) (.ref b) := by rw [At]; exact ⟨b, xs, rfl, hb, h⟩
theorem Ats.nil {H : Hp} : Ats H [] [] := by rw [Ats]
theorem Ats.cons {H : Hp} {d : D} {ds : List D} {v : V} {vs : List V} (h : At H d v) (t : Ats H ds vs) : Ats H (d :: ds) (v :: vs) := by rw [Ats]; exact ⟨v, vs, rfl, h, t⟩
theorem At.of_int {H : Hp} {i : Int} {v : V} (h : At H (.num i) v) : v = .int i := by rw [At] at h; exact h
theorem At.of_str {H : Hp} {i : Str} {v : V} (h : At H (.text i) v) : v = .str i := by rw [At] at h; exact h
theorem At.of_non {H : Hp} {v : V} (h : At H .none v) : v = .non := by rw [At] at h; exact h
theorem At.of_tup {H : Hp} {ks : List D} {v : V} (h : At H (.tup ks) v) : ∃ b xs, v = .ref b ∧ H b = some (.tup xs) ∧ Ats H ks xs := by rw [At] at h; exact h
theorem Ats.of_nil {H : Hp} {vs : List V} (h : Ats H [] vs) : vs = [] := by rw [Ats] at h; exact h
theorem Ats.of_cons {H : Hp} {d : D} {ds : List D} {vs : List V} (h : Ats H (d :: ds) vs) : ∃ v r, vs = v :: r ∧ At H d v ∧ Ats H ds r := by rw [Ats] at h; exact h
theorem Ats.length {H : Hp} : ∀ {ds : List D} {vs : List V}, Ats H ds vs → vs.length = ds.length
  | [], _, h => by rw [h.of_nil]; rfl
  | d :: ds, _, h => by
    obtain ⟨v, r, e, _, t⟩ := h.of_cons
    rw [e, List.length_cons, List.length_cons, Ats.length t]
theorem Ats.get {H : Hp} : ∀ {ds : List D} {vs : List V} {i : Nat} {d : D}, Ats H ds vs → ds[i]? = some d → ∃ v, vs[i]? = some v ∧ At H d v
  | [], _, _, _, _, e => by simp at e
  | d :: ds, _, i, k, h, e => by
    obtain ⟨v, r, q, h1, t⟩ := h.of_cons
    subst q
    cases i with
    | zero =>
      simp at e
      subst e
      exact ⟨v, rfl, h1⟩
    | succ i =>
      obtain ⟨u, hu, a⟩ := Ats.get (i := i) t (by simpa using e)
      exact ⟨u, by simpa using hu, a⟩
theorem Ats.get' {H : Hp} : ∀ {ds : List D} {vs : List V} {i : Nat} {v : V}, Ats H ds vs → vs[i]? = some v → ∃ d, ds[i]? = some d ∧ At H d v
  | [], _, _, _, h, e => by rw [h.of_nil] at e; simp at e
  | d :: ds, _, i, k, h, e => by
    obtain ⟨v, r, q, h1, t⟩ := h.of_cons
    subst q
    cases i with
    | zero =>
      simp at e
      subst e
      exact ⟨d, rfl, h1⟩
    | succ i =>
      obtain ⟨u, hu, a⟩ := Ats.get' (i := i) t (by simpa using e)
      exact ⟨u, by simpa using hu, a⟩
theorem Ats.app {H : Hp} : ∀ {ds es : List D} {vs us : List V}, Ats H ds vs → Ats H es us → Ats H (ds ++ es) (vs ++ us)
  | [], _, _, _, h, t => by rw [h.of_nil]; exact t
  | d :: ds, es, _, us, h, t => by
    obtain ⟨v, r, q, h1, h2⟩ := h.of_cons
    subst q
    exact Ats.cons h1 (Ats.app h2 t)
theorem Ats.take {H : Hp} : ∀ (n : Nat) {ds : List D} {vs : List V}, Ats H ds vs → Ats H (ds.take n) (vs.take n)
  | 0, _, _, _ => Ats.nil
  | n + 1, [], _, h => by rw [h.of_nil]; exact Ats.nil
  | n + 1, d :: ds, _, h => by
    obtain ⟨v, r, q, h1, h2⟩ := h.of_cons
    subst q
    exact Ats.cons h1 (Ats.take n h2)
theorem Ats.drop {H : Hp} : ∀ (n : Nat) {ds : List D} {vs : List V}, Ats H ds vs → Ats H (ds.drop n) (vs.drop n)
  | 0, _, _, h => h
  | n + 1, [], _, h => by rw [h.of_nil]; exact Ats.nil
  | n + 1, d :: ds, _, h => by
    obtain ⟨v, r, q, h1, h2⟩ := h.of_cons
    subst q
    exact Ats.drop n h2
/-- the leaves are their own values -/
theorem Ats.ints {H : Hp} : ∀ {ns : List Int} {vs : List V}, Ats H (ns.map .num) vs → vs = ns.map .int
  | [], _, h => h.of_nil
  | n :: ns, _, h => by
    obtain ⟨v, r, q, h1, h2⟩ := Ats.of_cons h
    rw [q, h1.of_int, Ats.ints h2]
    rfl
theorem ats_ints {H : Hp} : ∀ (ns : List Int), Ats H (ns.map .num) (ns.map .int)
  | [] => Ats.nil
  | n :: ns => Ats.cons At.int (ats_ints ns)

/-! ### the data in the heap itself -/
mutual
theorem At.isk {P : Program} {w : World} {H : Hp} {h : Heap} (ok : HOk P w H h) : ∀ (d : D) (v : V) (u : Value), At H d v → RelV v u → NestedIs h d u
  | .none, _, _, a, r => by
    rw [a.of_non] at r
    cases r
    exact .none
  | .num i, _, _, a, r => by
    rw [a.of_int] at r
    obtain ⟨t, e⟩ := (show ∃ t, _ = Value.int i t from r)
    rw [e]
    exact .int i t
  | .text x, _, _, a, r => by
    rw [a.of_str] at r
    obtain ⟨t, e⟩ := (show ∃ t, _ = Value.str x t from r)
    rw [e]
    exact .text x t
  | .tup ks, _, _, a, r => by
    obtain ⟨b, xs, e, hb, hs⟩ := a.of_tup
    rw [e] at r
    cases r
    obtain ⟨_, its, rv, o, h1, h2, n, h3⟩ := (show ObjOk P w H h b (.tup xs) from ok b _ hb)
    exact .tup h1 h2 h3 (by simpa using Ats.isk ok ks xs its hs rv)
theorem Ats.isk {P : Program} {w : World} {H : Hp} {h : Heap} (ok : HOk P w H h) : ∀ (ds : List D) (vs : List V) (us : List Value), Ats H ds vs → Vals vs us → NestedAll h ds us
  | [], _, _, a, r => by
    rw [a.of_nil] at r
    cases r
    exact .nil
  | d :: ds, _, _, a, r => by
    obtain ⟨v, rs, e, h1, h2⟩ := a.of_cons
    rw [e] at r
    cases r with
    | cons r1 r2 => exact .cons (At.isk ok d v _ h1 r1) (Ats.isk ok ds rs _ h2 r2)
end
end Lt

/-! Lt, part B: dicts by their own object: keys that are leaves, keys that are tuples. -/
namespace Lt
open PySem PySem.Spec PyProof.Rows L2

/-! ### keys: nothing and texts -/
def lf : Option Str → Leaf
  | none => .none
  | some x => .text x
def sg : Option Str → V
  | none => .non
  | some x => .str x
theorem lf_inj {a b : Option Str} (h : lf a = lf b) : a = b := by
  cases a <;> cases b <;> first | rfl | (injection h with h; rw [h]) | cases h
theorem sg_inj {a b : Option Str} (h : sg a = sg b) : a = b := by
  cases a <;> cases b <;> first | rfl | (injection h with h; rw [h]) | cases h
theorem sg_is {P : Program} {w : World} {k : Option Str} {u : Value} (r : RelV (sg k) u) : (leafKind P w).is (lf k) u = true := by
  cases k with
  | none =>
    cases r
    exact leaf_none
  | some x =>
    obtain ⟨t, e⟩ := (show ∃ t, u = Value.str x t from r)
    rw [e]
    exact leaf_str x t
theorem is_sg {P : Program} {w : World} {k : Option Str} {u : Value} (r : (leafKind P w).is (lf k) u = true) : RelV (sg k) u := by
  cases k with
  | none =>
    have q := Leaf.nested (h := default) (show Leaf.isOf (lf none) u = true from r)
    cases q
    exact rfl
  | some x =>
    have q := Leaf.nested (h := default) (show Leaf.isOf (lf (some x)) u = true from r)
    cases q with
    | text _ t => exact ⟨t, rfl⟩

def lfs (kvs : List (Option Str × V)) : List (Leaf × V) := kvs.map fun p => (lf p.1, p.2)
theorem valV_lfs (k : Option Str) : ∀ kvs : List (Option Str × V), valV (lfs kvs) (lf k) = valV kvs k
  | [] => rfl
  | p :: r => by
    have ih := valV_lfs k r
    show valV ((lf p.1, p.2) :: lfs r) (lf k) = valV (p :: r) k
    by_cases e : p.1 = k
    · rw [valV_pos e, valV_pos (p := (lf p.1, p.2)) (by rw [e])]
    · rw [valV_neg e, valV_neg (p := (lf p.1, p.2)) (fun z => e (lf_inj z)), ih]
theorem putK_lfs (k : Option Str) (v : V) (kvs : List (Option Str × V)) : putK (lfs kvs) (lf k) v = lfs (putK kvs k v) := by
  have e : ((lfs kvs).any fun kv => decide (kv.1 = lf k)) = kvs.any fun kv => decide (kv.1 = k) := by
    rw [valV_any, valV_any, valV_lfs]
  unfold putK
  rw [e]
  by_cases q : (kvs.any fun kv => decide (kv.1 = k)) = true
  · rw [if_pos q, if_pos q]
    unfold lfs
    rw [List.map_map, List.map_map]
    refine List.map_congr_left fun p _ => ?_
    show (if lf p.1 = lf k then (lf p.1, v) else (lf p.1, p.2)) = (lf (if p.1 = k then (p.1, v) else p).1, (if p.1 = k then (p.1, v) else p).2)
    by_cases z : p.1 = k
    · rw [if_pos z, if_pos (by rw [z])]
    · rw [if_neg z, if_neg (fun y => z (lf_inj y))]
  · rw [if_neg q, if_neg q]
    unfold lfs
    rw [List.map_append]
    rfl

/-- the object is a dict with these keys and values -/
def IsLD (P : Program) (w : World) (o : Obj) (kvs : List (Option Str × V)) : Prop :=
  kvs.length ≤ sizeLine ∧ ∃ es ep vs, o.ExactDict ∧ o.data = .dict es ep ∧ KeysOf (leafKind P w) es ∧ Pairs (leafKind P w) es.toList vs ∧ (vs.map (·.1)).Nodup ∧ KV (lfs kvs) vs
def LD (P : Program) (w : World) (H : Hp) (a : Addr) (kvs : List (Option Str × V)) : Prop := (a == sysModules) = false ∧ ∃ o, H a = some (raw a o) ∧ IsLD P w o kvs
theorem LD.le {P : Program} {w : World} {H H' : Hp} {a : Addr} {kvs : List (Option Str × V)} (h : LD P w H a kvs) (l : Le H H') : LD P w H' a kvs :=
  let ⟨y, o, e, i⟩ := h; ⟨y, o, l.ext e, i⟩

/-! ### keys: tuples of data -/
/-- entries: the keys' own tuples at the addresses -/
def Ent (H : Hp) : List (D × V) → List (D × Addr × Value) → Prop := Paired fun p q => p.1 = q.1 ∧ (At H p.1 (.ref q.2.1) ∧ p.1.depth ≤ 8) ∧ RelV p.2 q.2.2
def IsND (P : Program) (w : World) (H : Hp) (o : Obj) (kvs : List (D × V)) : Prop :=
  kvs.length ≤ sizeLine ∧ ∃ es ep xs, o.ExactDict ∧ o.data = .dict es ep ∧ es.toList = xs.map (entryOfKey (nestedKind P w)) ∧ (xs.map (·.1)).Nodup ∧ Ent H kvs xs
def ND (P : Program) (w : World) (H : Hp) (a : Addr) (kvs : List (D × V)) : Prop := (a == sysModules) = false ∧ ∃ o, H a = some (raw a o) ∧ IsND P w H o kvs
/-- the tuples stand -/
def Tups (H H' : Hp) : Prop := ∀ a xs, H a = some (.tup xs) → H' a = some (.tup xs)
theorem Le.tups {H H' : Hp} (l : Le H H') : Tups H H' := fun _ _ e => l.tup e
theorem Tups.trans {H H1 H2 : Hp} (a : Tups H H1) (b : Tups H1 H2) : Tups H H2 := fun p xs e => b p xs (a p xs e)
theorem Tups.refl (H : Hp) : Tups H H := fun _ _ e => e
/-- what is no tuple may be written -/
theorem tups_upd {H : Hp} {a : Addr} {o u : HO} (h : H a = some o) (n : ∀ xs, o ≠ .tup xs) : Tups H (upd H a u) := fun b xs e => by
  rw [upd_ne (ne_of e h (fun z => n xs z.symm))]
  exact e
theorem tups_new {H : Hp} {a : Addr} {u : HO} (h : H a = none) : Tups H (upd H a u) := fun b xs e => by
  rw [upd_ne (ne_of_none e h)]
  exact e
theorem At.tp {H H' : Hp} (l : Tups H H') {d : D} {v : V} (h : At H d v) : At H' d v := At.keep l d v h
theorem Ats.tp {H H' : Hp} (l : Tups H H') {d : List D} {v : List V} (h : Ats H d v) : Ats H' d v := Ats.keep l d v h
theorem Ent.tp {H H' : Hp} (l : Tups H H') {kvs : List (D × V)} {xs : List (D × Addr × Value)} (r : Ent H kvs xs) : Ent H' kvs xs :=
  Paired.mapP r fun _ _ z => ⟨z.1, ⟨z.2.1.1.tp l, z.2.1.2⟩, z.2.2⟩
theorem IsND.tp {P : Program} {w : World} {H H' : Hp} (l : Tups H H') {o : Obj} {kvs : List (D × V)} (h : IsND P w H o kvs) : IsND P w H' o kvs :=
  let ⟨z, es, ep, xs, h1, h2, h3, h4, r⟩ := h; ⟨z, es, ep, xs, h1, h2, h3, h4, r.tp l⟩
theorem ND.at {P : Program} {w : World} {H H' : Hp} {a : Addr} {kvs : List (D × V)} (h : ND P w H a kvs) (l : Tups H H') (e : ∀ o, H a = some (raw a o) → H' a = some (raw a o)) : ND P w H' a kvs :=
  let ⟨y, o, q, i⟩ := h; ⟨y, o, e o q, i.tp l⟩
theorem ND.le {P : Program} {w : World} {H H' : Hp} {a : Addr} {kvs : List (D × V)} (h : ND P w H a kvs) (l : Le H H') : ND P w H' a kvs := h.at l.tups fun _ e => l.ext e

theorem Ent.val {H : Hp} {kvs : List (D × V)} {xs : List (D × Addr × Value)} (r : Ent H kvs xs) (k : D) : RelO (valV kvs k) ((atKey xs k).map (·.2)) := by
  unfold Ent at r
  induction r with
  | nil => exact True.intro
  | @cons p q ps qs h t ih =>
    obtain ⟨h1, _, h2⟩ := h
    by_cases e : p.1 = k
    · have e' : q.1 = k := h1.symm.trans e
      have b : atKey (q :: qs) k = some q.2 := by simp [atKey, List.find?_cons, e']
      rw [valV_pos e, b]
      exact h2
    · have e' : ¬ q.1 = k := fun z => e (h1.trans z)
      have b : atKey (q :: qs) k = atKey qs k := by simp [atKey, List.find?_cons, e']
      rw [valV_neg e, b]
      exact ih
theorem Ent.repl {H : Hp} {kvs : List (D × V)} {xs : List (D × Addr × Value)} (r : Ent H kvs xs) (k : D) {y : V} {u : Value} (ry : RelV y u) :
    Ent H (kvs.map fun kv => if kv.1 = k then (kv.1, y) else kv) (xs.map (putAt k u)) := by
  unfold Ent at r ⊢
  induction r with
  | nil => exact .nil
  | @cons p q ps qs h t ih =>
    rw [List.map_cons, List.map_cons]
    refine .cons ?_ ih
    obtain ⟨h1, h2, h3⟩ := h
    unfold putAt
    by_cases e : p.1 = k
    · rw [if_pos e, if_pos (h1.symm.trans e)]
      exact ⟨h1, h2, ry⟩
    · rw [if_neg e, if_neg (fun z => e (h1.trans z))]
      exact ⟨h1, h2, h3⟩
theorem Ent.put {H : Hp} {kvs : List (D × V)} {xs : List (D × Addr × Value)} (r : Ent H kvs xs) {k : D} {b : Addr} {y : V} {u : Value} (hb : At H k (.ref b)) (hd : k.depth ≤ 8) (ry : RelV y u) :
    Ent H (putK kvs k y) (storedH xs k b u) := by
  have e : (kvs.any fun kv => decide (kv.1 = k)) = (atKey xs k).isSome := by
    rw [valV_any, (r.val k).isSome_eq, Option.isSome_map]
  unfold putK storedH
  rw [e]
  by_cases q : (atKey xs k).isSome = true
  · rw [if_pos q, if_pos q]
    exact r.repl k ry
  · rw [if_neg q, if_neg q]
    exact Paired.snoc r ⟨rfl, ⟨hb, hd⟩, ry⟩
theorem Ent.length {H : Hp} {kvs : List (D × V)} {xs : List (D × Addr × Value)} (r : Ent H kvs xs) : kvs.length = xs.length := Paired.length r
theorem Ent.get {H : Hp} {kvs : List (D × V)} {xs : List (D × Addr × Value)} (r : Ent H kvs xs) : ∀ {i : Nat} {p : D × V}, kvs[i]? = some p → ∃ q, xs[i]? = some q ∧ p.1 = q.1 ∧ (At H p.1 (.ref q.2.1) ∧ p.1.depth ≤ 8) ∧ RelV p.2 q.2.2 := by
  unfold Ent at r
  induction r with
  | nil =>
    intro i p e
    simp at e
  | @cons p q ps qs h t ih =>
    intro i p' e
    cases i with
    | zero =>
      simp at e
      subst e
      exact ⟨q, rfl, h⟩
    | succ i =>
      obtain ⟨q', h1, h2⟩ := ih (by simpa using e)
      exact ⟨q', by simpa using h1, h2⟩
theorem Ent.keys {H : Hp} {kvs : List (D × V)} {xs : List (D × Addr × Value)} (r : Ent H kvs xs) : kvs.map (·.1) = xs.map (·.1) := by
  unfold Ent at r
  induction r with
  | nil => rfl
  | cons h t ih => rw [List.map_cons, List.map_cons, ih, h.1]

section
variable {P : Program} {w : World} {H : Hp} {h : Heap} {a : Addr}
theorem LD.dict {kvs : List (Option Str × V)} (ok : HOk P w H h) (e : LD P w H a kvs) : kvs.length ≤ sizeLine ∧ (a == sysModules) = false ∧ ∃ vs, KV (lfs kvs) vs ∧ h.DictOf (leafKind P w) a vs := by
  obtain ⟨y, o, ho, z, es, ep, vs, h1, h2, h3, h4, h5, r⟩ := e
  exact ⟨z, y, vs, r, o, es, ep, raw_get ok ho, h1, h2, h3, h4, h5⟩
theorem ent_is {kvs : List (D × V)} {xs : List (D × Addr × Value)} (ok : HOk P w H h) (r : Ent H kvs xs) : ∀ x ∈ xs, (nestedKind P w).is h x.1 x.2.1 := by
  intro x hx
  obtain ⟨i, hi⟩ := List.mem_iff_getElem?.mp hx
  have hl : i < kvs.length := by
    rw [r.length]
    exact (List.getElem?_eq_some_iff.mp hi).1
  obtain ⟨q, hq, e, ⟨h1, h2⟩, _⟩ := r.get (List.getElem?_eq_getElem hl)
  rw [hi] at hq
  cases hq
  rw [← e]
  exact ⟨At.isk ok _ _ _ h1 rfl, h2⟩
theorem key_is {k : D} {b : Addr} (ok : HOk P w H h) (a : At H k (.ref b)) (hd : k.depth ≤ 8) : (nestedKind P w).is h k b := ⟨At.isk ok _ _ _ a rfl, hd⟩
theorem ND.dict {kvs : List (D × V)} (ok : HOk P w H h) (e : ND P w H a kvs) : kvs.length ≤ sizeLine ∧ (a == sysModules) = false ∧ ∃ xs, Ent H kvs xs ∧ h.DictOfH (nestedKind P w) a xs := by
  obtain ⟨y, o, ho, z, es, ep, xs, h1, h2, h3, h4, r⟩ := e
  exact ⟨z, y, xs, r, o, es, ep, raw_get ok ho, h1, h2, h3, ent_is ok r, h4⟩
theorem ND.nodup {kvs : List (D × V)} (e : ND P w H a kvs) : (kvs.map (·.1)).Nodup := by
  obtain ⟨y, o, ho, z, es, ep, xs, h1, h2, h3, h4, r⟩ := e
  rw [r.keys]
  exact h4
end

/-! ### what is found at a key, what stands behind a store -/
def DG (P : Program) (w : World) (H : Hp) (a : Addr) (y : V) (r : Option V) : Prop :=
  (∃ kvs k, LD P w H a kvs ∧ y = sg k ∧ r = valV kvs k) ∨ ∃ kvs k b, ND P w H a kvs ∧ y = .ref b ∧ At H k y ∧ k.depth ≤ 8 ∧ r = valV kvs k
/-- the dict at a holds y: v, all else stands -/
def DP (P : Program) (w : World) (H : Hp) (a : Addr) (y v : V) (R : Hp → Prop) : Prop :=
  (∃ kvs k, LD P w H a kvs ∧ y = sg k ∧ kvs.length < sizeLine ∧ ∀ o, IsLD P w o (putK kvs k v) → R (upd H a (raw a o))) ∨
  ∃ kvs k b, ND P w H a kvs ∧ y = .ref b ∧ At H k y ∧ k.depth ≤ 8 ∧ kvs.length < sizeLine ∧ ∀ o, IsND P w H o (putK kvs k v) → R (upd H a (raw a o))

section
variable {X : Cx} {pins : List (Addr × Obj)} {σ : L2.St} {H : Hp} {s : Shared} {a : Addr} {y v d : V} {u r : Value} {o : Option V} {A : Around} {E : Value → Shared → Prop}
theorem room8 {A : Around} (hu : A.units + 64 < cLine) : (nestedKind X.prog X.w).room A.in1 := by
  show A.units + 1 + 8 < cLine
  omega
theorem dg_getItem {Q : Value → Shared → Prop} (hu : A.units + 64 < cLine) (I : Inv X pins σ H s) (g : DG X.prog X.w H a y (some v)) (ry : RelV y u) (h : ∀ w' s', Inv X pins σ H s' → RelV v w' → Q w' s') :
    wpAny (model X.prog X.w) A (getItem (.ref a) u) Q E s := by
  rcases g with ⟨kvs, k, e, ey, l⟩ | ⟨kvs, k, b, e, ey, ak, hd, l⟩
  · subst ey
    obtain ⟨z, hs, vs, rel, dd⟩ := e.dict I.hok
    obtain ⟨w', hw, rw'⟩ := RelO.some_of (v := v) (o := valueAt vs (lf k)) (by rw [l, ← valV_lfs]; exact rel.val (lf k))
    exact wpAny_getItem_of (sg_is ry) dd.mapOf hw (h w' _ (I.tok _) rw')
  · subst ey
    cases (show u = Value.ref b from ry)
    obtain ⟨z, hs, xs, rel, dd⟩ := e.dict I.hok
    obtain ⟨w', hw, rw'⟩ := RelO.some_of (v := v) (o := (atKey xs k).map (·.2)) (by rw [l]; exact rel.val k)
    obtain ⟨p, hp, hp2⟩ := Option.map_eq_some_iff.mp hw
    refine wpAny_getItem_heap (room8 hu) (key_is I.hok ak hd) dd hp ?_
    rw [hp2]
    exact h w' _ (I.tok _) rw'
theorem dg_get2 {Q : Value → Shared → Prop} (hu : A.units + 64 < cLine) (I : Inv X pins σ H s) (g : DG X.prog X.w H a y o) (ry : RelV y u) (rd : RelV d r) (h : ∀ w' s', Inv X pins σ H s' → RelV (o.getD d) w' → Q w' s') :
    wpAny (model X.prog X.w) A (call (.builtin "dict.get") [.ref a, u, r]) Q E s := by
  rcases g with ⟨kvs, k, e, ey, l⟩ | ⟨kvs, k, b, e, ey, ak, hd, l⟩
  · subst ey
    obtain ⟨z, hs, vs, rel, dd⟩ := e.dict I.hok
    refine call_meetsIn PySem.F.slot_dict_get dd.typeIs PySem.F.entry_dict_get (PySem.F.args_dict_get_3 _ _ _) (meets_dict_get_default (leafKind X.prog X.w) a (sg_is ry) hs r) ⟨_, dd.mapOf, h _ _ (I.tok _) ?_⟩
    rw [l, ← valV_lfs]
    exact (rel.val (lf k)).getD rd
  · subst ey
    cases (show u = Value.ref b from ry)
    obtain ⟨z, hs, xs, rel, dd⟩ := e.dict I.hok
    refine call_meetsIn PySem.F.slot_dict_get dd.typeIs PySem.F.entry_dict_get (PySem.F.args_dict_get_3 _ _ _) (meetsH_dict_get_default (nestedKind X.prog X.w) a b hs r) ⟨room8 hu, k, xs, key_is I.hok ak hd, dd, h _ _ (I.tok _) ?_⟩
    rw [l]
    exact (rel.val k).getD rd
theorem isLD_of {P : Program} {w : World} {h' : Heap} {kvs : List (Option Str × V)} {vs : List (Leaf × Value)} (z : kvs.length ≤ sizeLine) (rel : KV (lfs kvs) vs) (dd : h'.DictOf (leafKind P w) a vs) : ∃ o, h'.get? a = some o ∧ IsLD P w o kvs := by
  obtain ⟨o, es, ep, h1, h2, h3, h4, h5, h6⟩ := dd
  exact ⟨o, h1, z, es, ep, vs, h2, h3, h4, h5, h6, rel⟩
theorem isND_of {P : Program} {w : World} {h' : Heap} {kvs : List (D × V)} {xs : List (D × Addr × Value)} (z : kvs.length ≤ sizeLine) (rel : Ent H kvs xs) (dd : h'.DictOfH (nestedKind P w) a xs) : ∃ o, h'.get? a = some o ∧ IsND P w H o kvs := by
  obtain ⟨o, es, ep, h1, h2, h3, h4, _, h6⟩ := dd
  exact ⟨o, h1, z, es, ep, xs, h2, h3, h4, h6, rel⟩
theorem dp_setItem {R : Hp → Prop} {Q : Unit → Shared → Prop} (hu : A.units + 64 < cLine) (I : Inv X pins σ H s) (g : DP X.prog X.w H a y v R) (ry : RelV y u) (rv : RelV v r) (h : ∀ H' s', Inv X pins σ H' s' → R H' → Q () s') :
    wpAny (model X.prog X.w) A (setItem (.ref a) u r) Q E s := by
  rcases g with ⟨kvs, k, e, ey, l, kR⟩ | ⟨kvs, k, b, e, ey, ak, hd, l, kR⟩
  · subst ey
    obtain ⟨_, o0, e0, _⟩ := id e
    obtain ⟨z, hs, vs, rel, dd⟩ := e.dict I.hok
    have hz : vs.length ≤ sizeLine := by
      rw [← rel.length]
      unfold lfs
      rw [List.length_map]
      exact z
    have hl : (putK kvs k v).length ≤ sizeLine := by have := length_putK kvs k v; omega
    refine wpAny_setItem_pairs (hsz := hz) (sg_is ry) dd fun h' dd' hsb => ?_
    obtain ⟨o, ho, i⟩ := isLD_of hl (by rw [← putK_lfs]; exact rel.put (lf k) rv) dd'
    exact h _ _ (Inv.rawset I e0 hsb ho) (kR o i)
  · subst ey
    cases (show u = Value.ref b from ry)
    obtain ⟨_, o0, e0, _⟩ := id e
    obtain ⟨z, hs, xs, rel, dd⟩ := e.dict I.hok
    have hz : xs.length ≤ sizeLine := by rw [← rel.length]; exact z
    have hl : (putK kvs k v).length ≤ sizeLine := by have := length_putK kvs k v; omega
    refine wpAny_setItem_heap (hsz := hz) (room8 hu) (key_is I.hok ak hd) dd fun h' dd' hsb => ?_
    obtain ⟨o, ho, i⟩ := isND_of (H := H) hl (rel.put ak hd rv) dd'
    exact h _ _ (Inv.rawset I e0 hsb ho) (kR o i)
theorem dg_typeIs (I : Inv X pins σ H s) (g : DG X.prog X.w H a y o) : s.TypeIs (.ref a) "dict" := by
  rcases g with ⟨kvs, k, e, _, _⟩ | ⟨kvs, k, b, e, _⟩
  · obtain ⟨_, _, vs, _, dd⟩ := e.dict I.hok
    exact dd.typeIs
  · obtain ⟨_, _, xs, _, dd⟩ := e.dict I.hok
    exact dd.typeIs
end

/-- a is a dict tracked by its object -/
def IsDict (H : Hp) (a : Addr) : Prop := ∃ o es ep, H a = some (raw a o) ∧ o.ExactDict ∧ o.data = .dict es ep ∧ (a == sysModules) = false
theorem LD.isDict {P : Program} {w : World} {H : Hp} {a : Addr} {kvs : List (Option Str × V)} (e : LD P w H a kvs) : IsDict H a := by
  obtain ⟨y, o, ho, z, es, ep, vs, h1, h2, _⟩ := e
  exact ⟨o, es, ep, ho, h1, h2, y⟩
theorem ND.isDict {P : Program} {w : World} {H : Hp} {a : Addr} {kvs : List (D × V)} (e : ND P w H a kvs) : IsDict H a := by
  obtain ⟨y, o, ho, z, es, ep, vs, h1, h2, _⟩ := e
  exact ⟨o, es, ep, ho, h1, h2, y⟩
theorem isDict_at {X : Cx} {pins : List (Addr × Obj)} {σ : L2.St} {H : Hp} {s : Shared} {a : Addr} (I : Inv X pins σ H s) (d : IsDict H a) :
    s.TypeIs (.ref a) "dict" ∧ (∀ b, Value.ref a = .ref b → ∃ ob, s.heap.get? b = some ob ∧ ob.dict = none) ∧ (a == sysModules) = false ∧ ∃ es ep, s.heap.DictRaw a es ep := by
  obtain ⟨o, es, ep, ho, hc, hd, y⟩ := d
  have hg := raw_get I.hok ho
  refine ⟨⟨o, hg, hc.1⟩, fun b q => ?_, y, es, ep, o, hg, hc, hd⟩
  cases q
  exact ⟨o, hg, hc.2.1⟩

/-! ### readings and rules -/
def tNGet (P : Program) (w : World) (td ty : TE) : TE := fun σ H Q => td σ H fun x H1 => ty σ H1 fun y H2 => ∃ a v, x = .ref a ∧ DG P w H2 a y (some v) ∧ Q v H2
def sNPut (P : Program) (w : World) (td ty tv : TE) : TS := fun D σ H => tv σ H fun v H1 => td σ H1 fun x H2 => ty σ H2 fun y H3 => ∃ a, x = .ref a ∧ DP P w H3 a y v (D.nx σ)
def tNGet2 (P : Program) (w : World) (td ty tx : TE) : TE := fun σ H Q => td σ H fun x H1 => ∃ a, x = .ref a ∧ IsDict H1 a ∧ ty σ H1 fun y H2 => tx σ H2 fun z H3 => ∃ o, DG P w H3 a y o ∧ Q (o.getD z) H3
/-- {} -/
def newD : Obj := { cls := .type "dict", data := .dict #[] }
def tNNew : TE := fun _ H Q => ∀ p, H p = none → (p == sysModules) = false → Q (.ref p) (upd H p (raw p newD))
theorem newD_LD (P : Program) (w : World) : IsLD P w newD [] := by
  obtain ⟨o, es, ep, h1, h2, h3, h4, h5, h6⟩ := Heap.DictOf.new (knd := leafKind P w) (default : Heap)
  rw [Heap.get?_push_size _ rfl] at h1
  cases h1
  exact ⟨Nat.zero_le _, es, ep, [], h2, h3, h4, h5, h6, .nil⟩
theorem newD_ND (P : Program) (w : World) (H : Hp) : IsND P w H newD [] := ⟨Nat.zero_le _, #[], 0, [], ⟨rfl, rfl, rfl⟩, rfl, rfl, List.nodup_nil, .nil⟩
section
variable {X : Cx} {o i e f value : Expr} {pos pos' tpos apos cpos : Pos} {td ty tv tx : TE}
theorem pe_nget (hu : X.A.units + 64 < cLine) (ho : PE X o td) (hi : PE X i ty) (hs : NoSl i) : PE X (.Subscript o i pos) (tNGet X.prog X.w td ty) := by
  refine ⟨fun pins s σ H Q I h => ?_⟩
  refine subD_of PySem.F.slot_dict_getitem.lookup hs (thn (ho.run pins s σ H _ I h) fun u s1 ⟨x, H1, I1, rx, q1⟩ => thn (hi.run pins s1 σ H1 _ I1 q1) fun iv s2 ⟨y, H2, I2, ry, a, v, ex, g, q2⟩ => ?_)
  subst ex
  obtain rfl : u = Value.ref a := rx
  exact ⟨dg_typeIs I2 g, dg_getItem hu I2 g ry fun w' s3 I3 rw' => ⟨v, H2, I3, rw', q2⟩⟩
theorem ps_nput (hu : X.A.units + 64 < cLine) (ho : PE X o td) (hi : PE X i ty) (hv : PE X value tv) (hs : swapsWith value (some (.Subscript o i pos')) pos.line X.env = pure false) :
    PS X (.Assign [.Subscript o i pos'] value pos) (sNPut X.prog X.w td ty tv) := by
  refine ⟨fun pins s σ H D I h => ?_⟩
  refine wpAny_Assign_Subscript (thn (hv.run pins s σ H _ I h) fun r s1 ⟨v, H1, I1, rv, q1⟩ => thn (ho.run pins s1 σ H1 _ I1 q1) fun u s2 ⟨x, H2, I2, rx, q2⟩ => thn (hi.run pins s2 σ H2 _ I2 q2) fun iv s3 ⟨y, H3, I3, ry, a, ex, g⟩ => ?_) hs
  subst ex
  obtain rfl : u = Value.ref a := rx
  exact dp_setItem hu I3 g ry rv fun H4 s4 I4 q => ⟨σ, H4, I4, q⟩
theorem pe_nget2 (hu : X.A.units + 64 < cLine) (ho : PE X o td) (he : PE X e ty) (hf : PE X f tx) (m : M2 X o "get" apos e f cpos) : PE X (.Call (.Attribute o "get" apos) [e, f] [] cpos) (tNGet2 X.prog X.w td ty tx) := by
  refine ⟨fun pins s σ H Q I h => ?_⟩
  refine wpAny_Call_method m.base m.few m.line PySem.F.plainAttrs_dict PySem.F.slot_dict_get PySem.F.type_dict_get (thn (ho.run pins s σ H _ I h) fun u s1 ⟨x, H1, I1, rx, a, ex, d, q1⟩ => ?_)
  subst ex
  obtain rfl : u = Value.ref a := rx
  obtain ⟨t1, t2, _⟩ := isDict_at I1 d
  refine ⟨t1, t2, ?_⟩
  rw [m.trees]
  refine Calls.callWith_builtin rfl (Calls.evalArgs_plain (Calls.spliced_cons (thn (he.run pins s1 σ H1 _ I1 q1) fun iv s2 ⟨y, H2, I2, ry, q2⟩ =>
    Calls.spliced_cons (thn (hf.run pins s2 σ H2 _ I2 q2) fun fv s3 ⟨z, H3, I3, rz, ov, g, q3⟩ => Calls.spliced_nil ?_))))
  exact dg_get2 hu I3 g ry rz fun w' s4 I4 rw' => ⟨_, H3, I4, rw', q3⟩
theorem pe_nnew : PE X (.Dict [] [] pos) tNNew := ⟨fun pins s σ H Q I h =>
  wpAny_Dict_empty ⟨.ref s.heap.objs.size, _, Inv.rawnew (o := newD) (t' := s.toks) I (fun _ _ q => Heap.get?_push_of_some _ q) (Nat.le_refl _) (Heap.get?_push_size _ rfl), rfl, h _ (I.hok.fresh (Nat.le_refl _)) (nosys I (Nat.le_refl _))⟩⟩
end

/-! ### a walk over the keys -/
/-- the keys, as values -/
def KeysAre (o : Obj) (ks : List V) : Prop := ∃ es ep, o.ExactDict ∧ o.data = .dict es ep ∧ Vals ks (es.toList.map (·.key))
def Itn (d : Addr) (o : Obj) (ks : List V) : It := ⟨fun i H => H d = some (raw d o) ∧ i < ks.length, fun i H x H' => H' = H ∧ ks[i]? = some x, fun i H => H d = some (raw d o) ∧ ks.length ≤ i⟩
theorem walk_n {d : Addr} {o : Obj} {ks : List V} : Walk (Itn d o ks) ks.length (fun H => H d = some (raw d o)) (YAt ks) :=
  ⟨fun _ _ hi q => ⟨q, hi⟩, fun _ q => ⟨q, Nat.le_refl _⟩, fun _ _ _ _ _ _ y => y⟩
theorem turn_n {P : Program} {w : World} {K : PySem.W.Frag} {tg : Expr} {d : Addr} {o : Obj} {ks : List V} {es : Array DictEntry} {ep : Nat} (it : Addr) (hx : o.ExactDict) (hd : o.data = .dict es ep) (hv : Vals ks (es.toList.map (·.key))) :
    Turn P w K tg (Itn d o ks) [it] it (fun i h => h.IsKeyIter it d i es.size ep) where
  mem := by simp
  obj := fun i h st b hb => by
    have e : b = it := by simpa using hb
    subst e
    obtain ⟨ob, e, _, dd⟩ := st
    exact ⟨ob, e, fun v z => by rw [dd] at z; cases z⟩
  keep := fun i h h' st k => st.at fun ob e => k it (by simp) ob e
  item := by
    intro X hP hw hK hc i pins s σ H E I hf st hg
    subst hP hw hK
    obtain ⟨hH, hi⟩ := hg
    have hg := raw_get I.hok hH
    obtain ⟨f0, f1, f2, f3, f4, f5⟩ := hf it (by simp)
    have hsz : ks.length = es.size := by
      rw [hv.length, List.length_map, Array.length_toList]
    have hie : i < es.size := by omega
    obtain ⟨u, hu, ru⟩ := hv.get (List.getElem?_eq_getElem hi)
    have eu : u = es[i].key := by
      rw [List.getElem?_map, Array.getElem?_toList, Array.getElem?_eq_getElem hie] at hu
      exact (Option.some.inj hu).symm
    refine wpAny_pyNext_keys_item_raw st ⟨o, hg, hx, hd⟩ hie fun h' st' sb => ?_
    have I1 : Inv X pins σ H { s with heap := h' } := I.turned (t' := s.toks) (fun b ob hb e => (sb.2 b hb).trans e) f0 f1 f3 f4 f5
    obtain ⟨oi, ei, ci, di⟩ := id st'
    exact ⟨es[i].key, rfl, go_of (s := { s with heap := h' }) ei ci di (by decide) ⟨ks[i], H, I1, by rw [← eu]; exact ru, ⟨rfl, List.getElem?_eq_getElem hi⟩, st', fun b hb => (hf b hb).1⟩⟩
  done := by
    intro X hP hw hK hc i pins s σ H E I hf st hg
    subst hP hw hK
    obtain ⟨hH, hi⟩ := hg
    have hg := raw_get I.hok hH
    obtain ⟨f0, f1, f2, f3, f4, f5⟩ := hf it (by simp)
    have hsz : ks.length = es.size := by
      rw [hv.length, List.length_map, Array.length_toList]
    exact wpAny_pyNext_keys_end_raw (I.ok.hd hc) st ⟨o, hg, hx, hd⟩ (by omega) fun h' eb => ⟨rfl, I.turned (t' := s.toks) (fun b ob hb e => eb b ob hb e) f0 f1 f3 f4 f5⟩
  self := fun A i s Q E st h => wpAny_pyIter_keyiter st h
def iNKeys (td : TE) : TI := fun σ H R => td σ H fun x H1 => ∃ d o ks, x = .ref d ∧ H1 d = some (raw d o) ∧ KeysAre o ks ∧ (d == sysModules) = false ∧ R (Itn d o ks) H1
theorem pi_nkeys {X : Cx} {tg l : Expr} {tl : TE} (hl : PE X l tl) : PI X tg l (iNKeys tl) := by
  refine ⟨fun pins s σ H R I h => ?_⟩
  refine thn (hl.run pins s σ H _ I h) fun v s1 ⟨x, H1, I1, r1, q1⟩ => ?_
  obtain ⟨d, o, ks, e, hH, ⟨es, ep, hx, hd, hv⟩, hs, q⟩ := q1
  subst e
  cases r1
  refine wpAny_pyIter_dict_raw hs ⟨o, raw_get I1.hok hH, hx, hd⟩ ?_
  exact pi_one (tk := s1.toks) I1 _ (turn_n _ hx hd hv) ⟨_, Heap.get?_push_size _ rfl, rfl, rfl⟩ q
theorem keys_LD {P : Program} {w : World} {o : Obj} {kvs : List (Option Str × V)} (h : IsLD P w o kvs) : KeysAre o (kvs.map fun p => sg p.1) := by
  obtain ⟨z, es, ep, vs, h1, h2, h3, h4, h5, r⟩ := h
  refine ⟨es, ep, h1, h2, ?_⟩
  have go : ∀ {l : List DictEntry} {vs : List (Leaf × Value)} {kvs : List (Option Str × V)}, Pairs (leafKind P w) l vs → KV (lfs kvs) vs → Vals (kvs.map fun p => sg p.1) (l.map (·.key)) := by
    intro l
    induction l with
    | nil =>
      intro vs kvs p r
      cases p
      cases kvs with
      | nil => exact .nil
      | cons a t => cases r
    | cons e l ih =>
      intro vs kvs p r
      cases p with
      | cons p1 p0 p2 =>
        cases kvs with
        | nil => cases r
        | cons a t =>
          cases r with
          | cons r1 r2 =>
            refine .cons ?_ (ih p2 r2)
            refine is_sg (P := P) (w := w) ?_
            have q := r1.1
            rw [show lf a.1 = _ from q]
            exact p1
  exact go h4 r
end Lt

/-! Lt, part C: further operations: list.count, text * number, comparisons of data, walks. -/
namespace Lt
open PySem PySem.Spec PyProof.Rows L2

section
variable {X : Cx}
/-- list.count of a flat value -/
def rCntV (K : PySem.W.Frag) : V → List V → Hp → VK → Prop := fun x xs H Q => ∃ (p : Addr) (ys : List V) (y : V), x = .ref p ∧ xs = [y] ∧ SqL K H p ys ∧ flatV y = true ∧ ys.all flatV = true ∧ Q (.int ((ys.countP fun z => eqV z y : Nat) : Int)) H
theorem count_eqU {x : V} : ∀ {xs : List V} {us : List Value}, Vals xs us → xs.all flatV = true → us.countP (eqU x) = xs.countP fun y => eqV y x
  | _, _, .nil, _ => rfl
  | y :: xs, u :: us, .cons r t, f => by
    rw [List.all_cons, Bool.and_eq_true] at f
    rw [List.countP_cons, List.countP_cons, eqU_of r f.1, count_eqU t f.2]
theorem mt_countV : MtR X "list.count" (rCntV X.K) := by
  intro pins s σ H x xs v us Q I rx rxs h
  obtain ⟨p, ys, y, rfl, rfl, hs, fy, fs, q⟩ := h
  cases rx
  obtain ⟨u, rfl, ru⟩ := rxs.one
  obtain ⟨its, rv, ⟨⟨cls, dd, data, sl⟩, n, ho, hc, hdn, hd⟩, hlen⟩ := I.list hs
  simp only at hc hd
  subst hc hd
  refine call_meets PySem.F.slot_list_count ⟨_, ho, rfl⟩ PySem.F.entry_list_count (PySem.F.args_list_count_2 _ _)
    (SeqAt.list_countAt p its.toArray n dd sl u (eqU y)) ⟨ho, fun z hz => mem_eqAt ru fy rv fs z (by simpa using hz), ?_⟩
  refine ⟨.int _, H, I.tok _, ⟨s.toks, ?_⟩, q⟩
  show Value.int ((its.toArray.toList.countP (eqU y) : Nat) : Int) s.toks = _
  rw [show its.toArray.toList = its from rfl, count_eqU rv fs]

/-- text * number -/
def repS (z : Str) (n : Int) : Str := ⟨((List.replicate n.toNat z.cps.toList).flatten).toArray⟩
theorem repS_len (z : Str) (n : Int) : (repS z n).length = n.toNat * z.length := by
  show ((List.replicate n.toNat z.cps.toList).flatten).toArray.size = _
  simp
  rfl
theorem rep_fold (z : Str) (n : Nat) : (List.replicate n z.cps).foldl (· ++ ·) #[] = ((List.replicate n z.cps.toList).flatten).toArray := by
  have go : ∀ (n : Nat) (acc : Array Nat), (List.replicate n z.cps).foldl (· ++ ·) acc = acc ++ ((List.replicate n z.cps.toList).flatten).toArray := by
    intro n
    induction n with
    | zero => intro acc; simp
    | succ n ih =>
      intro acc
      rw [List.replicate_succ, List.foldl_cons, ih, List.replicate_succ, List.flatten_cons]
      apply Array.ext'
      simp
  rw [go]
  simp
def rMulS : R2 := fun x y H Q => ∃ z n, x = .str z ∧ y = .int n ∧ 0 ≤ n ∧ n ≤ 1000 ∧ z.length ≤ 1000 ∧ Q (.str (repS z n)) H
theorem op_mulS : OpR X (binaryOp .Mult) rMulS := by
  intro pins s σ H x y v u Q I rx ry h
  obtain ⟨z, n, rfl, rfl, h0, h1, hz, q⟩ := h
  obtain ⟨t, rfl⟩ := rx
  obtain ⟨t', rfl⟩ := ry
  have hb : z.length * n.toNat ≤ 1000 * 1000 := Nat.mul_le_mul hz (by omega)
  refine PySem.P.mul_str ?_ (fun hn _ => ?_) (fun hn _ => ?_) ?_
  · have a1 : ¬ n < -(2 ^ 63 : Int) := by omega
    have a2 : ¬ n ≥ (2 ^ 63 : Int) := by omega
    rw [decide_eq_false a1, decide_eq_false a2]
    rfl
  · have h3 : (0 : Int) < n := by omega
    have h2 : (1000 : Int) ≤ (2 ^ 63 - 1) / n := by
      rw [Int.le_ediv_iff_mul_le h3]
      omega
    omega
  · have e : z.length * n.toNat ≤ sizeLine := Nat.le_trans hb (by rw [sizeLine_eq]; decide)
    unfold Builtin.Str.tooLong
    exact decide_eq_false (by omega)
  · by_cases hn : n < 1
    · rw [if_pos hn]
      have e : n = 0 := by omega
      subst e
      exact ⟨by decide, ⟨.str _, H, I.tok _, ⟨_, rfl⟩, q⟩⟩
    · rw [if_neg hn]
      by_cases hc : (n == 1 || z.length == 0) = true
      · rw [if_pos hc]
        have e : repS z n = z := by
          rw [Bool.or_eq_true, beq_iff_eq, beq_iff_eq] at hc
          unfold repS
          rcases hc with e | e
          · subst e
            show (⟨((List.replicate 1 z.cps.toList).flatten).toArray⟩ : Str) = z
            simp
          · have e2 : z.cps.toList = [] := by
              have : z.cps.size = 0 := e
              simpa using this
            rw [e2]
            have e3 : z.cps = #[] := by
              have := congrArg List.toArray e2
              simpa using this
            cases z
            simp at e3
            subst e3
            simp
        rw [e] at q
        exact ⟨.str _, H, I, ⟨_, rfl⟩, q⟩
      · rw [if_neg hc]
        refine ⟨?_, ⟨.str _, H, I.tok _, ⟨s.toks, ?_⟩, q⟩⟩
        · rw [rep_fold]
          show (repS z n).length ≤ sizeLine
          rw [repS_len, Nat.mul_comm, sizeLine_eq]
          omega
        · rw [rep_fold]
          all_goals rfl
end

/-! ### data compared -/
mutual
def py : D → PyData
  | .none => .none
  | .num i => .int i
  | .text x => .str x
  | .tup ks => .tuple (pys ks)
def pys : List D → List PyData
  | [] => []
  | k :: ks => py k :: pys ks
end
mutual
theorem eqv_py : ∀ a b : D, PyData.eqv (py a) (py b) = NestedKey.beq a b
  | .none, .none => rfl
  | .none, .num _ => rfl
  | .none, .text _ => rfl
  | .none, .tup _ => rfl
  | .num _, .none => rfl
  | .num a, .num b => by simp [py, PyData.eqv, NestedKey.beq, Bool.beq_eq_decide_eq]
  | .num _, .text _ => rfl
  | .num _, .tup _ => rfl
  | .text _, .none => rfl
  | .text _, .num _ => rfl
  | .text a, .text b => by simp [py, PyData.eqv, NestedKey.beq, Bool.beq_eq_decide_eq]
  | .text _, .tup _ => rfl
  | .tup _, .none => rfl
  | .tup _, .num _ => rfl
  | .tup _, .text _ => rfl
  | .tup a, .tup b => by simp only [py, PyData.eqv, NestedKey.beq]; exact eqv_pys a b
theorem eqv_pys : ∀ a b : List D, PyData.eqvAll (pys a) (pys b) = NestedKey.beqAll a b
  | [], [] => rfl
  | [], _ :: _ => rfl
  | _ :: _, [] => rfl
  | a :: as, b :: bs => by simp only [pys, PyData.eqvAll, NestedKey.beqAll]; rw [eqv_py a b, eqv_pys as bs]
end
theorem beqAll_decide (a b : List D) : NestedKey.beqAll a b = decide (a = b) := by
  cases h : NestedKey.beqAll a b with
  | true => exact (decide_eq_true (NestedKey.eq_of_beqAll a b h)).symm
  | false => exact (decide_eq_false fun e => by rw [e, NestedKey.beqAll_self] at h; cases h).symm
theorem eqv_list (a b : List D) : PyData.eqv (.list (pys a)) (.list (pys b)) = decide (a = b) := by
  rw [← beqAll_decide, ← eqv_pys, PyData.eqv]
theorem eqv_dec (a b : D) : PyData.eqv (py a) (py b) = decide (a = b) := by rw [eqv_py, NestedKey.decide_eq]
mutual
theorem At.dp {K : PySem.W.Frag} {H : Hp} : ∀ (d : D) (v : V), At H d v → Dp K H v (py d)
  | .none, _, h => by rw [h.of_non]; exact .non
  | .num i, _, h => by rw [h.of_int]; exact .int i
  | .text x, _, h => by rw [h.of_str]; exact .str x
  | .tup ks, _, h => by
    obtain ⟨b, xs, e, hb, hs⟩ := h.of_tup
    rw [e]
    exact .tup (SqT.of hb) (Ats.dp ks xs hs)
theorem Ats.dp {K : PySem.W.Frag} {H : Hp} : ∀ (ds : List D) (vs : List V), Ats H ds vs → DpAll K H vs (pys ds)
  | [], _, h => by rw [h.of_nil]; exact .nil
  | d :: ds, _, h => by
    obtain ⟨v, r, e, h1, h2⟩ := h.of_cons
    rw [e]
    exact .cons (At.dp d v h1) (Ats.dp ds r h2)
end
/-- it can be laid: texts of true signs -/
def okD (d : D) : Bool := (py d).canLay0
def okDs (ds : List D) : Bool := PyData.canLayAll0 (pys ds)
theorem okDs_cons {d : D} {ds : List D} : okDs (d :: ds) = (okD d && okDs ds) := rfl
theorem okDs_of : ∀ {ds : List D}, (∀ d ∈ ds, okD d = true) → okDs ds = true
  | [], _ => rfl
  | d :: ds, h => by
    rw [okDs_cons, h d (List.mem_cons_self), okDs_of fun x hx => h x (List.mem_cons_of_mem _ hx)]
    rfl
theorem okDs_mem : ∀ {ds : List D}, okDs ds = true → ∀ d ∈ ds, okD d = true
  | [], _, d, hd => by cases hd
  | e :: ds, h, d, hd => by
    rw [okDs_cons, Bool.and_eq_true] at h
    rcases List.mem_cons.mp hd with q | q
    · rw [q]; exact h.1
    · exact okDs_mem h.2 d q
theorem okD_tup {ks : List D} : okD (.tup ks) = okDs ks := rfl
theorem okD_num {i : Int} : okD (.num i) = true := rfl
theorem okDs_ints : ∀ ns : List Int, okDs (ns.map .num) = true := fun ns => okDs_of fun d hd => by
  obtain ⟨n, _, rfl⟩ := List.mem_map.mp hd
  rfl
/-- how deep -/
def dpD (d : D) : Nat := (py d).depth
def dpDs (ds : List D) : Nat := PyData.depthAll (pys ds)
theorem dpDs_le {n : Nat} : ∀ {ds : List D}, (∀ d ∈ ds, dpD d ≤ n) → dpDs ds ≤ n
  | [], _ => Nat.zero_le _
  | d :: ds, h => by
    show max (dpD d) (dpDs ds) ≤ n
    exact Nat.max_le.mpr ⟨h d (List.mem_cons_self), dpDs_le fun x hx => h x (List.mem_cons_of_mem _ hx)⟩
theorem dpD_tup {ks : List D} : dpD (.tup ks) = dpDs ks + 1 := by
  show (PyData.tuple (pys ks)).depth = _
  rw [PyData.depth]
  rfl
theorem dpD_leaf : dpD .none = 0 ∧ (∀ i, dpD (.num i) = 0) ∧ ∀ x, dpD (.text x) = 0 := by
  refine ⟨?_, fun i => ?_, fun x => ?_⟩ <;> (show PyData.depth _ = 0; simp only [py, PyData.depth])
theorem dpDs_ints (ns : List Int) : dpDs (ns.map .num) = 0 := Nat.le_zero.mp (dpDs_le fun d hd => by
  obtain ⟨n, _, rfl⟩ := List.mem_map.mp hd
  exact Nat.le_of_eq (dpD_leaf.2.1 n))
section
variable {X : Cx}
def rEqT : R2 := fun x y H Q => ∃ d e, At H d x ∧ At H e y ∧ okD d = true ∧ okD e = true ∧ dpD d ≤ 64 ∧ dpD e ≤ 64 ∧ Q (.bl (decide (d = e))) H
def rNeT : R2 := fun x y H Q => ∃ d e, At H d x ∧ At H e y ∧ okD d = true ∧ okD e = true ∧ dpD d ≤ 64 ∧ dpD e ≤ 64 ∧ Q (.bl (!decide (d = e))) H
theorem op_eqT (hu : X.A.units + 64 < cLine) : OpR X (compareOp .Eq) rEqT := by
  intro pins s σ H x y v u Q I rx ry h
  obtain ⟨d, e, hd, he, kd, ke, ld, le, q⟩ := h
  refine op_eqD hu pins s σ H x y v u Q I rx ry ⟨py d, py e, At.dp d x hd, At.dp e y he, ?_, ?_, ?_⟩
  · exact (Bool.and_eq_true _ _).mpr ⟨kd, decide_eq_true ld⟩
  · exact (Bool.and_eq_true _ _).mpr ⟨ke, decide_eq_true le⟩
  · rw [eqv_dec]
    exact q
theorem op_neT (hu : X.A.units + 64 < cLine) : OpR X (compareOp .NotEq) rNeT := by
  intro pins s σ H x y v u Q I rx ry h
  obtain ⟨d, e, hd, he, kd, ke, ld, le, q⟩ := h
  refine op_neD hu pins s σ H x y v u Q I rx ry ⟨py d, py e, At.dp d x hd, At.dp e y he, ?_, ?_, ?_⟩
  · exact (Bool.and_eq_true _ _).mpr ⟨kd, decide_eq_true ld⟩
  · exact (Bool.and_eq_true _ _).mpr ⟨ke, decide_eq_true le⟩
  · rw [eqv_dec]
    exact q
/-- lists of data -/
def rEqL (K : PySem.W.Frag) : R2 := fun x y H Q => ∃ p q xs ys ds es, x = .ref p ∧ y = .ref q ∧ SqL K H p xs ∧ SqL K H q ys ∧ Ats H ds xs ∧ Ats H es ys ∧ okDs ds = true ∧ okDs es = true ∧ dpDs ds ≤ 60 ∧ dpDs es ≤ 60 ∧ Q (.bl (decide (ds = es))) H
def rNeL (K : PySem.W.Frag) : R2 := fun x y H Q => ∃ p q xs ys ds es, x = .ref p ∧ y = .ref q ∧ SqL K H p xs ∧ SqL K H q ys ∧ Ats H ds xs ∧ Ats H es ys ∧ okDs ds = true ∧ okDs es = true ∧ dpDs ds ≤ 60 ∧ dpDs es ≤ 60 ∧ Q (.bl (!decide (ds = es))) H
theorem shaped_list {ds : List D} (k : okDs ds = true) (l : dpDs ds ≤ 60) : SeqAt.shaped (.list (pys ds)) = true := by
  refine (Bool.and_eq_true _ _).mpr ⟨?_, decide_eq_true ?_⟩
  · rw [PyData.canLay0]
    exact k
  · rw [PyData.depth]
    have : PyData.depthAll (pys ds) ≤ 60 := l
    omega
theorem op_eqL (hu : X.A.units + 64 < cLine) : OpR X (compareOp .Eq) (rEqL X.K) := by
  intro pins s σ H x y v u Q I rx ry h
  obtain ⟨p, q', xs, ys, ds, es, rfl, rfl, hp, hq, hd, he, kd, ke, ld, le, q⟩ := h
  refine op_eqD hu pins s σ H _ _ v u Q I rx ry ⟨.list (pys ds), .list (pys es), .lst hp (Ats.dp ds xs hd), .lst hq (Ats.dp es ys he), shaped_list kd ld, shaped_list ke le, ?_⟩
  rw [eqv_list]
  exact q
theorem op_neL (hu : X.A.units + 64 < cLine) : OpR X (compareOp .NotEq) (rNeL X.K) := by
  intro pins s σ H x y v u Q I rx ry h
  obtain ⟨p, q', xs, ys, ds, es, rfl, rfl, hp, hq, hd, he, kd, ke, ld, le, q⟩ := h
  refine op_neD hu pins s σ H _ _ v u Q I rx ry ⟨.list (pys ds), .list (pys es), .lst hp (Ats.dp ds xs hd), .lst hq (Ats.dp es ys he), shaped_list kd ld, shaped_list ke le, ?_⟩
  rw [eqv_list]
  exact q
end
/-- signs as data -/
def sd : Option Str → D
  | none => .none
  | some x => .text x
theorem sd_at {H : Hp} (o : Option Str) : At H (sd o) (sg o) := by
  cases o
  · exact At.non
  · exact At.str
theorem sd_inj {a b : Option Str} (h : sd a = sd b) : a = b := by
  cases a <;> cases b <;> first | rfl | (injection h with h; rw [h]) | cases h
theorem sds_at {H : Hp} : ∀ ss : List (Option Str), Ats H (ss.map sd) (ss.map sg)
  | [] => Ats.nil
  | s :: ss => Ats.cons (sd_at s) (sds_at ss)
theorem sds_inj : ∀ {a b : List (Option Str)}, a.map sd = b.map sd → a = b
  | [], [], _ => rfl
  | [], _ :: _, h => by simp at h
  | _ :: _, [], h => by simp at h
  | x :: a, y :: b, h => by
    rw [List.map_cons, List.map_cons] at h
    injection h with h1 h2
    rw [sd_inj h1, sds_inj h2]
theorem sds_dec (a b : List (Option Str)) : decide (a.map sd = b.map sd) = decide (a = b) := decide_eq_decide.mpr ⟨sds_inj, fun e => by rw [e]⟩
theorem dp_sd : ∀ o : Option Str, dpD (sd o) = 0
  | none => dpD_leaf.1
  | some x => dpD_leaf.2.2 x
theorem sds_dp (ss : List (Option Str)) : dpDs (ss.map sd) ≤ 60 := dpDs_le fun d hd => by
  obtain ⟨o, _, rfl⟩ := List.mem_map.mp hd
  rw [dp_sd]
  decide
/-- a sign that one may be told: small letters -/
def IsSign (s : Str) : Prop := 1 ≤ s.length ∧ s.length ≤ 8 ∧ ∀ c ∈ s.cps.toList, 97 ≤ c ∧ c ≤ 122
def IsSg : Option Str → Prop
  | none => True
  | some s => IsSign s
theorem IsSign.ok {s : Str} (h : IsSign s) : okD (.text s) = true := by
  show (PyData.str s).canLay0 = true
  rw [PyData.canLay0]
  show s.cps.all (· < 0x110000) = true
  rw [← Array.all_toList, List.all_eq_true]
  intro c hc
  have := h.2.2 c hc
  exact decide_eq_true (by omega)
theorem IsSg.ok {o : Option Str} (h : IsSg o) : okD (sd o) = true := by
  cases o
  · rfl
  · exact IsSign.ok h
theorem IsSg.oks {ss : List (Option Str)} (h : ∀ s ∈ ss, IsSg s) : okDs (ss.map sd) = true := okDs_of fun d hd => by
  obtain ⟨o, ho, rfl⟩ := List.mem_map.mp hd
  exact (h o ho).ok
theorem sg_flat (o : Option Str) : flatV (sg o) = true := by cases o <;> rfl
theorem sgs_flat (ss : List (Option Str)) : (ss.map sg).all flatV = true := by
  rw [List.all_map, List.all_eq_true]
  intro o _
  exact sg_flat o
theorem eqV_sg (a b : Option Str) : eqV (sg a) (sg b) = (a == b) := by
  cases a <;> cases b <;> first | rfl | (simp [sg, eqV])
theorem countP_sg (o : Option Str) : ∀ ss : List (Option Str), (ss.map sg).countP (fun z => eqV z (sg o)) = ss.count o
  | [] => rfl
  | s :: ss => by rw [List.map_cons, List.countP_cons, List.count_cons, countP_sg o ss, eqV_sg]
theorem scal_sg (a b : Option Str) : scal (sg a) (sg b) = true := by cases a <;> cases b <;> rfl
theorem dec_sg (a b : Option Str) : decide (sg a = sg b) = decide (a = b) := decide_eq_decide.mpr ⟨sg_inj, fun e => by rw [e]⟩
theorem walk_listN {K : PySem.W.Frag} {a : Addr} {xs : List V} {n : Nat} (h : xs.length = n) : Walk (Itl K a) n (fun H => SqL K H a xs) (YAt xs) := by
  subst h
  exact walk_list
theorem walk_tupN {K : PySem.W.Frag} {a : Addr} {xs : List V} {n : Nat} (h : xs.length = n) : Walk (Itt K a) n (fun H => SqT K H a xs) (YAt xs) := by
  subst h
  exact walk_tup
theorem valV_mem {κ : Type} [DecidableEq κ] {kvs : List (κ × V)} {k : κ} {v : V} (h : valV kvs k = some v) : (k, v) ∈ kvs := by
  unfold valV at h
  obtain ⟨p, hp, e⟩ := Option.map_eq_some_iff.mp h
  have h1 := List.find?_some hp
  have h2 := List.mem_of_find?_eq_some hp
  simp only [decide_eq_true_eq] at h1
  rw [← h1, ← e]
  exact h2

/-! ### the rules with the written part told -/
section
variable {X : Cx} {K : PySem.W.Frag}
theorem ix_listK (e : X.K = K) : IxR X (rIxL K) := e ▸ ix_list
theorem ix_tupK (e : X.K = K) : IxR X (rIxT K) := e ▸ ix_tup
theorem in_seqK (e : X.K = K) : OpR X (compareOp .In) (rIn K false) := e ▸ op_in_seq
theorem notIn_seqK (e : X.K = K) : OpR X (compareOp .NotIn) (rIn K true) := e ▸ op_notIn_seq
def rLenQ (K : PySem.W.Frag) : List V → Hp → VK → Prop := fun xs H Q => ∃ p ys, xs = [.ref p] ∧ (SqL K H p ys ∨ SqT K H p ys) ∧ Q (.int ys.length) H
theorem len_seqK (e : X.K = K) : CallR X (.builtin "len") (rLenQ K) := e ▸ call_len_seq
theorem sl_listK (e : X.K = K) : SlR X (rSlL K) := e ▸ sl_list
theorem sl_tupK (e : X.K = K) : SlR X (rSlT K) := e ▸ sl_tup
theorem countVK (e : X.K = K) : MtR X "list.count" (rCntV K) := e ▸ mt_countV
theorem indexK (e : X.K = K) : MtR X "list.index" (rIndex K) := e ▸ mt_index
theorem isiK (e : X.K = K) : CallR X (.builtin "isinstance") (rIsi K) := e ▸ call_isi
def rListQ (K : PySem.W.Frag) : List V → Hp → VK → Prop := fun xs H Q => ∃ p ys, xs = [.ref p] ∧ (SqL K H p ys ∨ SqT K H p ys) ∧ ∀ l, H l = none → Q (.ref l) (upd H l (.lst ys))
theorem list_ofK (e : X.K = K) : CallR X (.type "list") (rListQ K) := e ▸ call_list_of
theorem eqLK (e : X.K = K) (hu : X.A.units + 64 < cLine) : OpR X (compareOp .Eq) (rEqL K) := e ▸ op_eqL hu
theorem neLK (e : X.K = K) (hu : X.A.units + 64 < cLine) : OpR X (compareOp .NotEq) (rNeL K) := e ▸ op_neL hu
theorem pi_listK {tg l : Expr} {tl : TE} (e : X.K = K) (hl : PE X l tl) : PI X tg l (iList K tl) := e ▸ pi_list hl
theorem pi_tupK {tg l : Expr} {tl : TE} (e : X.K = K) (hl : PE X l tl) : PI X tg l (iTup K tl) := e ▸ pi_tup hl
theorem pg_tupK {es : List Expr} {k : Nat} {t : TGs} {n : Nat} {pos : Pos} (e : X.K = K) (hc : X.calm = true) (h : PGs X es t)
    (hn : (assignEach es X.env).length = n := by rfl) (hst : (assignEach es X.env).findIdx? (·.1) = none := by rfl) : PG X (.Tuple es k pos) (gTup K n t) := e ▸ pg_tup hc h hn hst
theorem pe_fldK {e : Expr} {ta : TE} {f : Str} {pos : Pos} (q : X.K = K) (ha : PE X e ta) (hb : attributeBase e f X.env (eval e X.env) = eval e X.env) : PE X (.Attribute e f pos) (tFld K ta f) := q ▸ pe_fld ha hb
section
variable {T : String} {r : V → List V → Hp → VK → Prop} {to : TE} {t : TA}
theorem bmK {e : Expr} (q : X.K = K) (h : PE X e (tBM X.K T r to t)) : PE X e (tBM K T r to t) := q ▸ h
theorem bm0K {e : Expr} (q : X.K = K) (h : PE X e (tBM0 X.K T r to)) : PE X e (tBM0 K T r to) := q ▸ h
end
section
variable {P : Program} {w : World} {o i e f value : Expr} {pos pos' tpos apos cpos : Pos} {td ty tv tx : TE}
theorem pe_ngetK (q : X.prog = P) (z : X.w = w) (hu : X.A.units + 64 < cLine) (ho : PE X o td) (hi : PE X i ty) (hs : NoSl i) : PE X (.Subscript o i pos) (tNGet P w td ty) := by
  subst q z
  exact pe_nget hu ho hi hs
theorem ps_nputK (q : X.prog = P) (z : X.w = w) (hu : X.A.units + 64 < cLine) (ho : PE X o td) (hi : PE X i ty) (hv : PE X value tv) (hs : swapsWith value (some (.Subscript o i pos')) pos.line X.env = pure false) :
    PS X (.Assign [.Subscript o i pos'] value pos) (sNPut P w td ty tv) := by
  subst q z
  exact ps_nput hu ho hi hv hs
theorem pe_nget2K (q : X.prog = P) (z : X.w = w) (hu : X.A.units + 64 < cLine) (ho : PE X o td) (he : PE X e ty) (hf : PE X f tx) (m : M2 X o "get" apos e f cpos) : PE X (.Call (.Attribute o "get" apos) [e, f] [] cpos) (tNGet2 P w td ty tx) := by
  subst q z
  exact pe_nget2 hu ho he hf m
end
end

/-! ### a comprehension of data -/
theorem range_filterMap {α : Type} (F : Nat → Option α) (n : Nat) : (List.range (n + 1)).filterMap F = (List.range n).filterMap F ++ (match F n with | some d => [d] | none => []) := by
  rw [List.range_succ, List.filterMap_append]
  congr 1
  cases h : F n <;> simp [h]
theorem lc_data {J : It} {n : Nat} {G : Hp → Prop} {Y : Nat → Hp → V → Hp → Prop} (wk : Walk J n G Y) {g : TG} {tt : TT} {te : TE} {vs : List Nat} {σ : L2.St} {H1 : Hp} {D' : Addr} {Qd : Hp → Prop} (hD : H1 D' = none) (hn : n ≤ 100000) (F : Nat → Option D)
    (hG : ∀ H', Le H1 H' → G H')
    (hs : ∀ i x H' H'', i < n → Le H1 H' → Y i H' x H'' → ∀ (Yk : V → Hp → Prop) (Nk : Hp → Prop), (∀ y H4 d, Le H' H4 → F i = some d → At H4 d y → Yk y H4) → (∀ H3, Le H' H3 → F i = none → Nk H3) →
      g x (wipe σ vs) H'' fun σ2 H2 => wipe σ2 vs = wipe σ vs ∧ tt σ2 H2 fun b H3 => if b = true then te σ2 H3 Yk else Nk H3)
    (hd : ∀ H' xs, Le H1 H' → H' D' = some (.lst xs) → Ats H' ((List.range n).filterMap F) xs → Qd H') :
    ∃ W : Nat → Nat → Hp → Prop, (∃ m, W 0 m (L2.upd H1 D' (.lst []))) ∧ ∀ i m H, W i m H →
      (J.stop i H ∧ Qd H) ∨ (J.go i H ∧ ∃ Nx : Hp → Prop, (∀ H', Nx H' → ∃ m', m' < m ∧ W (i + 1) m' H') ∧ ∀ x H', J.yld i H x H' → g x (wipe σ vs) H' fun σ2 H2 => wipe σ2 vs = wipe σ vs ∧ tt σ2 H2 fun b H3 =>
        if b = true then te σ2 H3 fun y H4 => ∃ acc, H4 D' = some (.lst acc) ∧ acc.length < sizeLine ∧ Nx (L2.upd H4 D' (.lst (acc ++ [y]))) else Nx H3) := by
  refine lc_it wk (fun i H' => Le H1 H' ∧ ∃ xs, H' D' = some (.lst xs) ∧ Ats H' ((List.range i).filterMap F) xs) ⟨.new hD, [], upd_same, Ats.nil⟩ (fun i H' _ h => hG H' h.1) (fun i x H' H'' hi h hy => ?_) (fun H' h => ?_)
  · obtain ⟨l, xs, hx, ha⟩ := h
    refine hs i x H' H'' hi l hy _ _ (fun y H4 d l4 hF hd' => ?_) (fun H3 l3 hF => ?_)
    · have hl : xs.length ≤ i := by
        rw [ha.length]
        exact Nat.le_trans (List.length_filterMap_le _ _) (by rw [List.length_range]; exact Nat.le_refl _)
      refine ⟨xs, l4.lst hx, Nat.lt_of_le_of_lt (Nat.le_trans hl (by omega : i ≤ 100000)) (by rw [sizeLine_eq]; decide), (l.trans l4).mut hD, _, upd_same, ?_⟩
      rw [range_filterMap, hF]
      exact Ats.app ((ha.le l4).tp (tups_upd (l4.lst hx) (fun _ z => nomatch z))) (Ats.cons (hd'.tp (tups_upd (l4.lst hx) (fun _ z => nomatch z))) Ats.nil)
    · refine ⟨l.trans l3, xs, l3.lst hx, ?_⟩
      rw [range_filterMap, hF]
      simpa using ha.le l3
  · obtain ⟨l, xs, hx, ha⟩ := h
    exact hd H' xs l hx ha
theorem scal_int {i j : Int} : scal (.int i) (.int j) = true := rfl
theorem scal_str {i j : Str} : scal (.str i) (.str j) = true := rfl
theorem scal_bl {i j : Bool} : scal (.bl i) (.bl j) = true := rfl

/-! ### where ways meet: what follows is shown once -/
def tJoin (t u : TS) : TS := fun D σ H => ∃ Mid : L2.St → Hp → Prop, t { D with nx := Mid } σ H ∧ ∀ σ' H', Mid σ' H' → u D σ' H'
theorem pss_join {X : Cx} {st : Stmt} {rest : List Stmt} {t u : TS} (h1 : PS X st t) (h2 : PSs X rest u) : PSs X (st :: rest) (tJoin t u) := by
  refine ⟨fun pins s σ H D I h => ?_⟩
  obtain ⟨Mid, ht, hu⟩ := h
  refine wpAny_execs_cons (thn (h1.run pins s σ H { D with nx := Mid } I ht) fun fl s1 q => ?_)
  cases fl with
  | ret v => exact q
  | brk => exact q
  | cont => exact q
  | next =>
    obtain ⟨σ1, H1, I1, m⟩ := q
    exact h2.run pins s1 σ1 H1 D I1 (hu σ1 H1 m)
def iv : V → Int
  | .int n => n
  | _ => 0
theorem ats_sd {H : Hp} : ∀ {Z : List (Option Str)} {ys : List V}, Ats H (Z.map sd) ys → ys = Z.map sg
  | [], _, h => h.of_nil
  | z :: Z, _, h => by
    obtain ⟨v, r, e, h1, h2⟩ := Ats.of_cons h
    rw [e, ats_sd h2, List.map_cons]
    congr 1
    cases z with
    | none => exact h1.of_non
    | some x => exact h1.of_str

theorem ixN_of {n : Nat} {z : Int} (h0 : 0 ≤ z) (h1 : z < n) : ixN n z = some z.toNat := by
  unfold ixN
  rw [if_pos h0, if_pos h1]

/-! ### calls of own defs that let nothing out -/
structure Cal (P : Program) (w : World) (K : PySem.W.Frag) (mg : Str → Option Value) (base : Heap) (CX : CXT) (k : Nat) (x : Str) (ps : List Str) (sp : Sp) (f : Addr) (fd : FuncData) : Prop where
  ok : FnOk P w K mg base CX k f fd ps sp
  gl : mg x = some (.ref f)
  kp : PySem.W.keepIn K (.ref f) = true
  bd : Binds K fd ps []
section
variable {X : Cx} {k : Nat} {x : Str} {ps : List Str} {sp : Sp} {f : Addr} {fd : FuncData} {p pos : Pos} {e : Expr} {es : List Expr} {t : TA}
theorem pe_own (c : Cal X.prog X.w X.K X.mg X.base CX0 k x ps sp f fd) (hr : Room k X.A) (hg : Gl X x) (ha : PA X (e :: es) t) (hdb : (x == ("__debug__" : Str)) = false := by decide)
    (he : starEach (e :: es) X.env = (false, eval e X.env) :: starEach es X.env := by rfl) (hpl : (backTo pos (starEach es X.env)).any (·.1) = false := by rfl) :
    PE X (.Call (.Name x p) (e :: es) [] pos) (tCall sp [] E0 t) := pe_call c.ok hr hg c.gl c.kp c.bd .nil pass0 ha hdb he hpl
end

/-! ### the builtins' names -/
theorem bb_range : bootBuiltins "range" = some (.type "range") := by decide +kernel
theorem bb_str : bootBuiltins "str" = some (.type "str") := by decide +kernel
theorem bb_int : bootBuiltins "int" = some (.type "int") := by decide +kernel
theorem bb_bool : bootBuiltins "bool" = some (.type "bool") := by decide +kernel
theorem bb_list : bootBuiltins "list" = some (.type "list") := by decide +kernel
theorem bb_tuple : bootBuiltins "tuple" = some (.type "tuple") := by decide +kernel
theorem bb_dict : bootBuiltins "dict" = some (.type "dict") := by decide +kernel
theorem bb_set : bootBuiltins "set" = some (.type "set") := by decide +kernel
theorem bb_enumerate : bootBuiltins "enumerate" = some (.type "enumerate") := by decide +kernel
theorem bb_len : bootBuiltins "len" = some (.builtin "len") := by decide +kernel
theorem bb_isinstance : bootBuiltins "isinstance" = some (.builtin "isinstance") := by decide +kernel
theorem bb_min : bootBuiltins "min" = some (.builtin "min") := by decide +kernel
theorem bb_max : bootBuiltins "max" = some (.builtin "max") := by decide +kernel
theorem bb_sum : bootBuiltins "sum" = some (.builtin "sum") := by decide +kernel
theorem bb_all : bootBuiltins "all" = some (.builtin "all") := by decide +kernel
structure Bt (mg : Str → Option Value) : Prop where
  b_range : mg "range" = none
  b_str : mg "str" = none
  b_int : mg "int" = none
  b_bool : mg "bool" = none
  b_list : mg "list" = none
  b_tuple : mg "tuple" = none
  b_dict : mg "dict" = none
  b_set : mg "set" = none
  b_enumerate : mg "enumerate" = none
  b_len : mg "len" = none
  b_isinstance : mg "isinstance" = none
  b_min : mg "min" = none
  b_max : mg "max" = none
  b_sum : mg "sum" = none
  b_all : mg "all" = none
end Lt

namespace Lt
open PySem PySem.Spec PyProof.Rows L2
def top (i : Nat) : Stmt := PySem.Challenge.pw_lietable_k02_votes.main.body.getD i (.Pass ⟨0, 0, 0, 0⟩)

/-! the readings made plain -/
local macro_rules | `(tactic| walk_at "rd") => `(tactic| simp (config := {decide := true}) only [tSeq, tAsg, gName, tC, tVar, tOp, tUn, rI0, rI, rU, tLst, tTup, tNil, tCons, tCB, tTest, tB, tIfS, tRet, tNext, tDrop, tAnd, tOr, tNot, tAndV, tOrV, tNotV, tIf, tSl, tPart, tNoPart, L2.start, List.map, List.length_cons, List.length_nil, List.replicate, List.set_cons_succ, List.set_cons_zero, List.cons_append, List.nil_append, List.append_nil, List.getElem?_cons_succ, List.getElem?_cons_zero, exists_eq_left', Option.some.injEq, V.int.injEq, V.str.injEq, V.bl.injEq, V.ref.injEq, List.cons.injEq, exists_and_left, exists_eq_left, true_and, and_true, and_self, and_assoc, rIxS, rMulS, rEq, rNe, scal_int, scal_str, scal_bl, CDiv, CMul, Nat.zero_le, true_or, or_true, Nat.zero_add, Nat.reduceAdd, Nat.reduceSub, Int.zero_add, tCall, tYes, wipe, reduceIte, if_true, if_false, Bool.false_eq_true, tBM, tBM0, rAppend, gSub, rSetL, tNGet, sNPut, tNGet2, tNNew])
/-! ### votes as plain functions -/
def voteM (ss : List (Option Str)) : Option Str := match ss.find? (fun x => decide (ss.length < 2 * ss.count x)) with
  | some x => x
  | none => none
theorem count_two {α : Type} [BEq α] [LawfulBEq α] {x y : α} (h : x ≠ y) : ∀ l : List α, l.count x + l.count y ≤ l.length
  | [] => by simp
  | a :: l => by
    have ih := count_two h l
    rw [List.count_cons, List.count_cons, List.length_cons]
    by_cases e : a = x
    · have e2 : ¬ a = y := fun z => h (e.symm.trans z)
      have b1 : (a == x) = true := by simp [e]
      have b2 : (a == y) = false := by simp [e2]
      rw [b1, b2]
      simp
      omega
    · by_cases e2 : a = y
      · have b1 : (a == x) = false := by simp [e]
        have b2 : (a == y) = true := by simp [e2]
        rw [b1, b2]
        simp
        omega
      · have b1 : (a == x) = false := by simp [e]
        have b2 : (a == y) = false := by simp [e2]
        rw [b1, b2]
        simp
        omega
theorem voteM_of {ss : List (Option Str)} {x : Option Str} (hx : ss.length < 2 * ss.count x) : voteM ss = x := by
  have hm : x ∈ ss := List.count_pos_iff.mp (by omega)
  unfold voteM
  cases q : ss.find? (fun x => decide (ss.length < 2 * ss.count x)) with
  | none =>
    have := List.find?_eq_none.mp q x hm
    simp only [decide_eq_true_eq] at this
    exact absurd hx this
  | some y =>
    have hy := List.find?_some q
    simp only [decide_eq_true_eq] at hy
    show y = x
    by_cases e : x = y
    · exact e.symm
    · have := count_two e ss
      omega
theorem voteM_none {ss : List (Option Str)} (h : ∀ x ∈ ss, ¬ ss.length < 2 * ss.count x) : voteM ss = none := by
  unfold voteM
  rw [List.find?_eq_none.mpr (fun x hx => by simpa using h x hx)]
theorem voteM_mem {ss : List (Option Str)} {x : Str} (h : voteM ss = some x) : some x ∈ ss := by
  unfold voteM at h
  cases q : ss.find? (fun x => decide (ss.length < 2 * ss.count x)) with
  | none => rw [q] at h; cases h
  | some y =>
    rw [q] at h
    have h : y = some x := h
    rw [← h]
    exact List.mem_of_find?_eq_some q
/-- what vote has counted -/
structure Told (l : List (Option Str)) (kvs : List (Option Str × V)) : Prop where
  val : ∀ k, valV kvs k = if l.count k = 0 then none else some (.int (l.count k : Int))
  len : kvs.length ≤ l.length
theorem Told.nil : Told [] [] := ⟨fun k => by simp [valV], Nat.le_refl _⟩
theorem Told.step {l : List (Option Str)} {kvs : List (Option Str × V)} (t : Told l kvs) (y : Option Str) : Told (l ++ [y]) (putK kvs y (.int ((l.count y : Int) + 1))) := by
  refine ⟨fun k => ?_, ?_⟩
  · rw [valV_put, t.val k, List.count_append]
    by_cases e : k = y
    · subst e
      simp
    · rw [if_neg e]
      have : List.count k [y] = 0 := by
        simp [List.count_cons, Ne.symm e]
      rw [this]
      simp
  · have := length_putK kvs y (.int ((l.count y : Int) + 1))
    have := t.len
    simp
    omega
def spVote (K : PySem.W.Frag) : Sp := fun vs H Q _ => ∃ (a : Addr) (ss : List (Option Str)), vs = [.ref a] ∧ SqL K H a (ss.map sg) ∧ ss.length ≤ 1000 ∧ ∀ H', Le H H' → Q (sg (voteM ss)) H'
section
variable {P : Program} {w : World} {K : PySem.W.Frag} {mg : Str → Option Value} {base : Heap}
abbrev s_vote : Stmt := top 1
theorem sc_vote : FnScope ["signs", "counts", "sign"] ["signs"] (defScope s_vote) := ⟨rfl, rfl, rfl, by decide +kernel, rfl, by decide +kernel, by decide +kernel⟩
theorem ok_vote {f : Addr} {fd : FuncData} (F : Fun K "vote" "vote" s_vote f fd) (T : Bt mg) : FnOk P w K mg base CX0 1 f fd ["signs"] (spVote K) := by
  refine F.ok sc_vote (fun vs H Q E h => ?_) (fun cdv A outer s H vs Q E hr h => ?_)
  · obtain ⟨a, ss, rfl, _⟩ := h
    rfl
  · obtain ⟨a, ss, rfl, hS, hl, k⟩ := h
    have hu := hr.units
    refine ⟨_, (pss_cons (ps_set (i := 1) sc_vote.nd rfl (Or.inl rfl) pe_nnew)
        (pss_cons (ps_for PassesOwn.never rfl (pi_listK (K := K) rfl (pv 0)) (pg_name (i := 2) sc_vote.nd rfl (Or.inl rfl))
          (pss_one (ps_nputK (P := P) (w := w) rfl rfl hu (pv 1) (pv 2) (pe_op op_add (pe_nget2K (P := P) (w := w) rfl rfl hu (pv 1) (pv 2) pe_int ⟨rfl, rfl, rfl, rfl⟩) pe_int) rfl)))
        (pss_cons (ps_for PassesOwn.never rfl (pi_nkeys (pv 1)) (pg_name (i := 2) sc_vote.nd rfl (Or.inl rfl))
          (pss_one (ps_if (pt_cmpR op_gt (pe_op op_mul pe_int (pe_ngetK (P := P) (w := w) rfl rfl hu (pv 1) (pv 2) (fun _ _ => rfl))) (pe_callB (len_seqK (K := K) rfl) (by rfl) T.b_len bb_len (pa_cons (pv 0) pa_nil)) (nomark _))
            (pss_one (ps_ret (pv 2)))
            pss_nil)))
        (pss_one (ps_ret pe_non))))), ?_⟩
    intro d hd hs
    have l0 : Le H (L2.upd H d (raw d newD)) := .new hd
    refine ⟨_, rfl, a, rfl, ⟨_, l0.sql hS⟩, for_it (n := ss.length) (walk_listN (by simp)) (fun i σ H' => ∃ v kvs, σ = [some (.ref a), some (.ref d), v] ∧ Le H H' ∧ LD P w H' d kvs ∧ Told (ss.take i) kvs)
      ⟨_, [], rfl, l0, ⟨hs, _, upd_same, newD_LD P w⟩, .nil⟩ (fun i σ H' _ ⟨v, kvs, _, l, _⟩ => l.sql hS) ?_ ?_⟩
    · rintro i x σ H1 H2 hi ⟨v, kvs, rfl, l, hD, ht⟩ ⟨rfl, hx⟩
      rw [List.getElem?_map, List.getElem?_eq_getElem hi] at hx
      obtain rfl : sg ss[i] = x := Option.some.inj hx
      refine ⟨_, rfl, d, rfl, hD.isDict, _, rfl, _, .inl ⟨kvs, ss[i], hD, rfl, rfl⟩, ?_⟩
      have e : (valV kvs ss[i]).getD (.int 0) = .int ((ss.take i).count ss[i] : Int) := by
        rw [ht.val]
        split
        · rename_i h0
          rw [h0]
          rfl
        · rfl
      refine ⟨_, _, e, rfl, _, rfl, _, rfl, d, rfl, .inl ⟨kvs, ss[i], hD, rfl, ?_, fun o ho => ?_⟩⟩
      · have := ht.len
        rw [List.length_take] at this
        exact small1000 (by omega)
      · refine ⟨_, _, rfl, l.mut hd, ⟨hs, o, upd_same, ho⟩, ?_⟩
        rw [List.take_succ_eq_append_getElem hi]
        exact ht.step _
    · rintro σ H1 ⟨v, kvs, rfl, l, hD, ht⟩
      rw [List.take_length] at ht
      obtain ⟨_, o, ho, io⟩ := id hD
      refine ⟨_, rfl, d, o, _, rfl, ho, keys_LD io, hs, for_it walk_n (fun i σ H' => ∃ v, σ = [some (.ref a), some (.ref d), v] ∧ Le H H' ∧ LD P w H' d kvs ∧ H' d = some (raw d o) ∧ ∀ j p, j < i → kvs[j]? = some p → ¬ ss.length < 2 * ss.count p.1)
        ⟨_, rfl, l, hD, ho, fun j p hj => by omega⟩ (fun i σ H' _ ⟨v, _, _, _, e, _⟩ => e) ?_ ?_⟩
      · rintro i x σ H1 H2 hi ⟨v, rfl, l, hD, hH, hno⟩ ⟨rfl, hx⟩
        rw [List.length_map] at hi
        rw [List.getElem?_map, List.getElem?_eq_getElem hi] at hx
        obtain rfl : sg kvs[i].1 = x := Option.some.inj hx
        have hv : valV kvs kvs[i].1 = some (.int (ss.count kvs[i].1 : Int)) := by
          have hm : kvs[i].1 ∈ kvs.map (·.1) := List.mem_map.mpr ⟨kvs[i], List.getElem_mem hi, rfl⟩
          have q := ht.val kvs[i].1
          split at q
          · exact absurd hm (valV_not q)
          · exact q
        refine ⟨_, rfl, _, rfl, d, _, rfl, .inl ⟨kvs, _, hD, rfl, hv.symm⟩, _, _, rfl, rfl, .inl ⟨by decide, by decide⟩, _, rfl, a, _, rfl, .inl (l.sql hS), _, _, rfl, rfl, _, rfl, ?_⟩
        refine ite2 (fun hc => ?_) (fun hc => ?_)
        · have hc : ss.length < 2 * ss.count kvs[i].1 := by
            rw [decide_eq_true_eq, List.length_map] at hc
            omega
          refine ⟨_, rfl, ?_⟩
          have q := k _ l
          rw [voteM_of hc] at q
          exact q
        · refine ⟨_, rfl, l, hD, hH, fun j p hj hp hc2 => ?_⟩
          by_cases e : j < i
          · exact hno j p e hp hc2
          · have e : j = i := by omega
            subst e
            rw [List.getElem?_eq_getElem hi] at hp
            cases hp
            refine hc ?_
            rw [decide_eq_true_eq, List.length_map]
            omega
      · rintro σ H1 ⟨v, rfl, l, hD, hH, hno⟩
        have e : voteM ss = none := voteM_none fun x hx hc => by
          have q := ht.val x
          rw [if_neg (Nat.pos_iff_ne_zero.mp (List.count_pos_iff.mpr hx))] at q
          obtain ⟨j, hj⟩ := List.mem_iff_getElem?.mp (valV_mem q)
          have := (List.getElem?_eq_some_iff.mp hj).1
          exact hno j _ (by rw [List.length_map]; exact this) hj hc
        have q := k H1 l
        rw [e] at q
        exact q
abbrev s_law_vote : Stmt := top 5
theorem sc_law_vote : FnScope ["_law_signs_here", "_law_sign"] ["_law_signs_here"] (defScope s_law_vote) := ⟨rfl, rfl, rfl, by decide +kernel, rfl, by decide +kernel, by decide +kernel⟩
theorem ok_law_vote {f : Addr} {fd : FuncData} (F : Fun K "_law_vote" "_law_vote" s_law_vote f fd) (T : Bt mg) : FnOk P w K mg base CX0 1 f fd ["_law_signs_here"] (spVote K) := by
  refine F.ok sc_law_vote (fun vs H Q E h => ?_) (fun cdv A outer s H vs Q E hr h => ?_)
  · obtain ⟨a, ss, rfl, _⟩ := h
    rfl
  · obtain ⟨a, ss, rfl, hS, hl, k⟩ := h
    refine ⟨_, (pss_cons (ps_for PassesOwn.never rfl (pi_listK (K := K) rfl (pv 0)) (pg_name (i := 1) sc_law_vote.nd rfl (Or.inl rfl))
          (pss_one (ps_if (pt_cmpR op_gt (pe_op op_mul pe_int (bmK (K := K) rfl (pe_bm PySem.F.plainAttrs_list PySem.F.slot_list_count PySem.F.type_list_count (countVK (K := K) rfl) (pv 0) (pa_cons (pv 1) pa_nil)))) (pe_callB (len_seqK (K := K) rfl) (by rfl) T.b_len bb_len (pa_cons (pv 0) pa_nil)) (nomark _))
            (pss_one (ps_ret (pv 1)))
            pss_nil)))
        (pss_one (ps_ret pe_non))), ?_⟩
    refine ⟨_, rfl, a, rfl, ⟨_, hS⟩, for_it (n := ss.length) (walk_listN (by simp)) (fun i σ H' => ∃ v, σ = [some (.ref a), v] ∧ Le H H' ∧ ∀ j, (hj : j < ss.length) → j < i → ¬ ss.length < 2 * ss.count ss[j])
      ⟨_, rfl, .refl H, fun j _ hj => by omega⟩ (fun i σ H' _ ⟨v, _, l, _⟩ => l.sql hS) ?_ ?_⟩
    · rintro i x σ H1 H2 hi ⟨v, rfl, l, hno⟩ ⟨rfl, hx⟩
      rw [List.getElem?_map, List.getElem?_eq_getElem hi] at hx
      obtain rfl : sg ss[i] = x := Option.some.inj hx
      refine ⟨_, rfl, .inl ⟨rfl, _, l.sql hS⟩, _, rfl, a, _, _, rfl, rfl, l.sql hS, sg_flat _, sgs_flat _, ?_⟩
      rw [countP_sg]
      refine ⟨_, _, rfl, rfl, .inl ⟨by decide, by decide⟩, _, rfl, a, _, rfl, .inl (l.sql hS), _, _, rfl, rfl, _, rfl, ite2 (fun hc => ?_) (fun hc => ?_)⟩
      · rw [decide_eq_true_eq, List.length_map] at hc
        refine ⟨_, rfl, ?_⟩
        have q := k _ l
        rw [voteM_of (x := ss[i]) (by omega)] at q
        exact q
      · rw [decide_eq_true_eq, List.length_map] at hc
        refine ⟨_, rfl, l, fun j hj hji => ?_⟩
        by_cases e : j < i
        · exact hno j hj e
        · obtain rfl : j = i := by omega
          omega
    · rintro σ H1 ⟨v, rfl, l, hno⟩
      have e : voteM ss = none := voteM_none fun x hx => by
        obtain ⟨j, hj, rfl⟩ := List.getElem_of_mem hx
        exact hno j hj hj
      have q := k H1 l
      rw [e] at q
      exact q
def cell (ns : List Int) (k : Int) : Int := ns.getD k.toNat 0
def spCell (K : PySem.W.Frag) : Sp := fun vs H Q _ => ∃ (a : Addr) (ns : List Int) (k : Int), vs = [.ref a, .int k] ∧ SqL K H a (ns.map V.int) ∧ ns.length ≤ 63 ∧ 0 ≤ k ∧ Q (.int (cell ns k)) H
abbrev s_law_cell_at : Stmt := top 3
theorem sc_law_cell_at : FnScope ["_law_script", "_law_k"] ["_law_script", "_law_k"] (defScope s_law_cell_at) := ⟨rfl, rfl, rfl, by decide +kernel, rfl, by decide +kernel, by decide +kernel⟩
theorem ok_law_cell_at {f : Addr} {fd : FuncData} (F : Fun K "_law_cell_at" "_law_cell_at" s_law_cell_at f fd) (T : Bt mg) : FnOk P w K mg base CX0 1 f fd ["_law_script", "_law_k"] (spCell K) := by
  refine F.ok sc_law_cell_at (fun vs H Q E h => ?_) (fun cdv A outer s H vs Q E hr h => ?_)
  · obtain ⟨a, ns, k, rfl, _⟩ := h
    rfl
  · obtain ⟨a, ns, k, rfl, hS, hl, h0, q⟩ := h
    refine ⟨_, (pss_cons (ps_if (pt_cmpR op_lt (pv 1) (pe_callB (len_seqK (K := K) rfl) (by rfl) T.b_len bb_len (pa_cons (pv 0) pa_nil)) (nomark _))
          (pss_one (ps_ret (pe_ix (ix_listK (K := K) rfl) (pv 0) (pv 1) (fun _ _ => rfl))))
          pss_nil)
        (pss_one (ps_ret pe_int))), ?_⟩
    refine ⟨_, rfl, _, rfl, a, _, rfl, .inl hS, _, _, rfl, rfl, _, rfl, ite2 (fun hc => ?_) (fun hc => ?_)⟩
    · rw [decide_eq_true_eq, List.length_map] at hc
      have e : cell ns k = ns[k.toNat]'(by omega) := by
        unfold cell
        rw [List.getD_eq_getElem?_getD, List.getElem?_eq_getElem (by omega)]
        rfl
      refine ⟨_, rfl, _, rfl, a, _, k, .int (cell ns k), rfl, rfl, hS, at_of (j := k.toNat) (by omega) ?_, q⟩
      rw [List.getElem?_map, List.getElem?_eq_getElem (by omega), e]
      rfl
    · rw [decide_eq_true_eq, List.length_map] at hc
      have e : cell ns k = 0 := by
        unfold cell
        rw [List.getD_eq_getElem?_getD, List.getElem?_eq_none (by omega)]
        rfl
      rw [e] at q
      exact q
def spSigns : Sp := fun vs H Q _ => ∃ (c : Int), vs = [.int c] ∧ ∀ p H' (ss : List Str), H p = none → Le H H' → H' p = some (.lst (ss.map .str)) → ss.length = 4 → (∀ s ∈ ss, IsSign s) → Q (.ref p) H'
abbrev ABC : Str := "abcdefghijklmnopqrstuvwxyz"
theorem abc_len : ABC.length ≤ sizeLine := by decide +kernel
theorem abc_at : ∀ i : Nat, i < 26 → ABC.cps.toList[i]? = some (97 + i) := by decide +kernel
theorem abc_ix {i : Int} (h0 : 0 ≤ i) (h1 : i < 26) : ∃ c, atI ABC.cps.toList i = some c ∧ 97 ≤ c ∧ c ≤ 122 := by
  obtain ⟨n, rfl⟩ := Int.eq_ofNat_of_zero_le h0
  exact ⟨97 + n, atI_nat (abc_at n (by omega)), by omega, by omega⟩
theorem repS_mem {c : Nat} {n : Int} {x : Nat} (h : x ∈ (repS ⟨#[c]⟩ n).cps.toList) : x = c := by
  have h : x ∈ ((List.replicate n.toNat [c]).flatten).toArray.toList := h
  rw [List.toList_toArray] at h
  obtain ⟨l, hl, hx⟩ := List.mem_flatten.mp h
  rw [(List.mem_replicate.mp hl).2] at hx
  exact List.mem_singleton.mp hx
theorem one_len (c : Nat) : (⟨#[c]⟩ : Str).length = 1 := rfl
theorem app_lenS (x y : Str) : (x ++ y).length = x.length + y.length := by
  show (x.cps ++ y.cps).size = _
  rw [Array.size_append]
  rfl
theorem app_mem {x y : Str} {c : Nat} (h : c ∈ (x ++ y).cps.toList) : c ∈ x.cps.toList ∨ c ∈ y.cps.toList := by
  have h : c ∈ (x.cps ++ y.cps).toList := h
  rw [Array.toList_append] at h
  exact List.mem_append.mp h
abbrev s_law_signs : Stmt := top 4
theorem sc_law_signs : FnScope ["_law_cell", "_law_letters", "_law_size", "_law_found", "_law_k", "_law_sign", "_law_place", "_law_ahead", "_law_behind"] ["_law_cell"] (defScope s_law_signs) := ⟨rfl, rfl, rfl, by decide +kernel, rfl, by decide +kernel, by decide +kernel⟩
theorem ok_law_signs {f : Addr} {fd : FuncData} (F : Fun K "_law_signs" "_law_signs" s_law_signs f fd) (T : Bt mg) : FnOk P w K mg base CX0 1 f fd ["_law_cell"] spSigns := by
  refine F.ok sc_law_signs (fun vs H Q E h => ?_) (fun cdv A outer s H vs Q E hr h => ?_)
  · obtain ⟨c, rfl, _⟩ := h
    rfl
  · obtain ⟨c, rfl, q⟩ := h
    refine ⟨_, (pss_cons (ps_set (i := 1) sc_law_signs.nd rfl (Or.inl rfl) pe_str)
        (pss_cons (ps_set (i := 2) sc_law_signs.nd rfl (Or.inl rfl) (pe_op op_add pe_int (pe_op op_mod (pe_op op_fdiv (pv 0) pe_int) pe_int)))
        (pss_cons (ps_set (i := 3) sc_law_signs.nd rfl (Or.inl rfl) (pe_lst pa_nil))
        (pss_cons (ps_for PassesOwn.never rfl (pi_range1 (by rfl) T.b_range (pa_cons pe_int pa_nil)) (pg_name (i := 4) sc_law_signs.nd rfl (Or.inl rfl))
          (pss_cons (ps_set (i := 5) sc_law_signs.nd rfl (Or.inl rfl) (pe_ix ix_str (pv 1) (pe_op op_mod (pe_op op_add (pe_op op_fdiv (pv 0) pe_int) (pe_op op_mul pe_int (pv 4))) pe_int) (fun _ _ => rfl)))
          (pss_one (ps_if (pt_cmpR op_eq (pe_op op_mod (pv 0) pe_int) pe_int (nomark _))
            (pss_one (ps_expr (bmK (K := K) rfl (pe_bm PySem.F.plainAttrs_list PySem.F.slot_list_append PySem.F.type_list_append mt_append (pv 3) (pa_cons (pe_op op_mulS (pe_ix ix_str (pv 1) (pe_op op_mod (pe_op op_fdiv (pv 0) pe_int) pe_int) (fun _ _ => rfl)) (pe_op op_add pe_int (pe_op op_mul pe_int (pv 4)))) pa_nil)))))
            (pss_cons (ps_set (i := 6) sc_law_signs.nd rfl (Or.inl rfl) (pe_op op_mod (pe_op op_fdiv (pv 0) pe_int) (pv 2)))
              (pss_cons (ps_set (i := 7) sc_law_signs.nd rfl (Or.inl rfl) (pe_op op_mulS (pe_ix ix_str (pv 1) (pv 2) (fun _ _ => rfl)) (pv 6)))
              (pss_cons (ps_set (i := 8) sc_law_signs.nd rfl (Or.inl rfl) (pe_op op_mulS (pe_ix ix_str (pv 1) (pe_op op_add (pv 2) (pe_op op_mod (pv 0) pe_int)) (fun _ _ => rfl)) (pe_op op_sub (pe_op op_sub (pv 2) pe_int) (pv 6))))
              (pss_one (ps_expr (bmK (K := K) rfl (pe_bm PySem.F.plainAttrs_list PySem.F.slot_list_append PySem.F.type_list_append mt_append (pv 3) (pa_cons (pe_op op_add_str (pe_op op_add_str (pv 7) (pv 5)) (pv 8)) pa_nil))))))))))))
        (pss_one (ps_ret (pv 3))))))), ?_⟩
    walk_at "rd"
    intro p hp
    refine ⟨4, rfl, by decide, by decide, for_range (n := 4) (fun i σ H' => ∃ v5 v6 v7 v8 v9 ss, σ = [some (.int c), some (.str ABC), some (.int (1 + c / 3 % 8)), some (.ref p), v5, v6, v7, v8, v9] ∧ Le H H' ∧ H' p = some (.lst (ss.map .str)) ∧ ss.length = i ∧ ∀ s ∈ ss, IsSign s)
      ⟨none, none, none, none, none, [], rfl, .new hp, upd_same, rfl, fun s hs => nomatch hs⟩ ?_ ?_⟩
    · rintro i σ H1 hi ⟨v5, v6, v7, v8, v9, ss, rfl, l, hl, hss, hg⟩
      walk_at "rd"
      have fin : ∀ (z : Str), IsSign z → Le H (L2.upd H1 p (.lst (ss.map V.str ++ [.str z]))) ∧ ∃ ss' : List Str, (L2.upd H1 p (.lst (ss.map V.str ++ [.str z]))) p = some (.lst (ss'.map .str)) ∧ ss'.length = i + 1 ∧ ∀ s ∈ ss', IsSign s := fun z hz =>
        ⟨l.mut hp, ss ++ [z], by rw [upd_same, List.map_append]; rfl, by rw [List.length_append, hss]; rfl, fun s hs => by
          rcases List.mem_append.mp hs with h | h
          · exact hg s h
          · rw [List.mem_singleton.mp h]; exact hz⟩
      obtain ⟨d, hd, d1, d2⟩ := abc_ix (i := (c / 24 + 7 * (i : Int)) % 26) (by omega) (by omega)
      have small : (ss.map V.str).length < sizeLine := by
        rw [List.length_map]
        exact small1000 (by omega)
      refine ⟨d, hd, ite2 (fun hc => ?_) (fun hc => ?_)⟩
      · obtain ⟨d', hd', e1, e2⟩ := abc_ix (i := c / 24 % 26) (by omega) (by omega)
        refine ⟨.inl ⟨rfl, _, .of hl⟩, d', hd', by omega, by omega, by rw [one_len]; decide, _, hl, small, fin _ ⟨?_, ?_, fun x hx => ?_⟩⟩
        · rw [repS_len, one_len]
          omega
        · rw [repS_len, one_len]
          omega
        · rw [repS_mem hx]
          omega
      · obtain ⟨a1, ha1, b1, b2⟩ := abc_ix (i := 1 + c / 3 % 8) (by omega) (by omega)
        obtain ⟨a2, ha2, b3, b4⟩ := abc_ix (i := 1 + c / 3 % 8 + c % 3) (by omega) (by omega)
        have m0 : 0 ≤ c / 5 % (1 + c / 3 % 8) := Int.emod_nonneg _ (by omega)
        have m1 : c / 5 % (1 + c / 3 % 8) < 1 + c / 3 % 8 := Int.emod_lt_of_pos _ (by omega)
        generalize hm : c / 5 % (1 + c / 3 % 8) = m at m0 m1 ⊢
        have len : (repS ⟨#[a1]⟩ m ++ ⟨#[d]⟩ ++ repS ⟨#[a2]⟩ (1 + c / 3 % 8 - 1 - m)).length = m.toNat + 1 + (1 + c / 3 % 8 - 1 - m).toNat := by
          rw [app_lenS, app_lenS, repS_len, repS_len, one_len, one_len, one_len]
          omega
        refine ⟨by omega, a1, ha1, m0, by omega, by rw [one_len]; decide, a2, ha2, by omega, by omega, by rw [one_len]; decide, .inl ⟨rfl, _, .of hl⟩, ?_, ?_, _, hl, small, fin _ ⟨?_, ?_, fun x hx => ?_⟩⟩
        · rw [repS_len, one_len, one_len, sizeLine_eq]
          omega
        · rw [app_lenS, repS_len, repS_len, one_len, one_len, one_len, sizeLine_eq]
          omega
        · rw [len]
          omega
        · rw [len]
          omega
        · rcases app_mem hx with h | h
          · rcases app_mem h with h | h
            · rw [repS_mem h]; omega
            · have h : x ∈ [d] := h
              rw [List.mem_singleton.mp h]; omega
          · rw [repS_mem h]; omega
    · rintro σ H1 ⟨v5, v6, v7, v8, v9, ss, rfl, l, hl, hss, hg⟩
      exact ⟨_, rfl, q p H1 ss hp l hl hss hg⟩
def spSame : Sp := fun vs H Q _ => ∃ (a b : Option Str), vs = [sg a, sg b] ∧ Q (.bl (decide (a = b))) H
abbrev s_law_same : Stmt := top 6
theorem sc_law_same : FnScope ["_law_found", "_law_due"] ["_law_found", "_law_due"] (defScope s_law_same) := ⟨rfl, rfl, rfl, by decide +kernel, rfl, by decide +kernel, by decide +kernel⟩
theorem ty_sg {K : PySem.W.Frag} {H : Hp} (o : Option Str) : ∃ t, TyX K H (sg o) t ∧ PySem.W.kitOne K t (.type "str") = some o.isSome := by
  cases o with
  | none => exact ⟨_, .base .non, kit_ty (a := "NoneType") (b := "str") (r := false) (by decide +kernel)⟩
  | some x => exact ⟨_, .base (.str x), kit_ty (a := "str") (b := "str") (r := true) (by decide +kernel)⟩
theorem ok_law_same {f : Addr} {fd : FuncData} (F : Fun K "_law_same" "_law_same" s_law_same f fd) (T : Bt mg) : FnOk P w K mg base CX0 1 f fd ["_law_found", "_law_due"] spSame := by
  refine F.ok sc_law_same (fun vs H Q E h => ?_) (fun cdv A outer s H vs Q E hr h => ?_)
  · obtain ⟨a, b, rfl, _⟩ := h
    rfl
  · obtain ⟨a, b, rfl, q⟩ := h
    refine ⟨_, (pss_cons (ps_if (pt_cmpR op_isN (pv 1) pe_non (nomark _))
          (pss_one (ps_ret (pe_cmpR op_isN (pv 0) pe_non (nomark _))))
          pss_nil)
        (pss_one (ps_ret (pe_and (pe_callB (isiK (K := K) rfl) (by rfl) T.b_isinstance bb_isinstance (pa_cons (pv 0) (pa_cons (pe_bltn (v := .ty "str") (by rfl) T.b_str bb_str rfl) pa_nil))) (pe_one (pe_cmpR op_eq (pv 0) (pv 1) (nomark _))))))), ?_⟩
    refine ⟨_, rfl, rfl, _, rfl, ?_⟩
    cases b with
    | none =>
      refine iteT ⟨_, rfl, rfl, ?_⟩
      rw [show V.non = sg none from rfl, dec_sg]
      exact q
    | some y =>
      obtain ⟨t, ht, hk⟩ := ty_sg (K := K) (H := H) a
      refine iteF ⟨_, rfl, _, _, _, _, _, rfl, .ty "str", ht, hk, _, rfl, ?_⟩
      cases a with
      | none => exact iteF q
      | some x =>
        refine iteT ⟨_, rfl, _, rfl, scal_sg (some x) (some y), ?_⟩
        rw [dec_sg (some x) (some y)]
        exact q
def spLaw (K : PySem.W.Frag) : Sp := fun vs H Q _ => ∃ (a : Addr) (ns : List Int), vs = [.ref a] ∧ SqL K H a (ns.map V.int) ∧ ns.length ≤ 63 ∧ ∀ H', Q (.bl true) H'
theorem cutV_mem {xs : List V} {lo hi : Option Int} {x : V} (h : x ∈ cutV xs lo hi) : x ∈ xs := by
  unfold cutV at h
  exact List.mem_of_mem_drop (List.mem_of_mem_take h)
theorem strs_sg (ss : List Str) : ss.map V.str = (ss.map some).map sg := by rw [List.map_map]; rfl
abbrev s_law : Stmt := top 7
abbrev n_law : List Str := ["_law_script", "_law_signs_here", "_law_few", "_law_listed", "_law_size", "_law_k", "_law_kept", "_law_cell"]
theorem sc_law : FnScope ["_law_script", "_law_signs_here", "_law_few", "_law_listed", "_law_size", "_law_k", "_law_kept", "_law_cell"] ["_law_script"] (defScope s_law) := ⟨rfl, rfl, rfl, by decide +kernel, rfl, by decide +kernel, by decide +kernel⟩
theorem ok_law {f f1 f2 f3 f4 f5 : Addr} {fd fd1 fd2 fd3 fd4 fd5 : FuncData} (F : Fun K "law" "law" s_law f fd) (T : Bt mg)
    (c_vote : Cal P w K mg base CX0 1 "vote" ["signs"] (spVote K) f1 fd1) (c_law_cell_at : Cal P w K mg base CX0 1 "_law_cell_at" ["_law_script", "_law_k"] (spCell K) f2 fd2)
    (c_law_signs : Cal P w K mg base CX0 1 "_law_signs" ["_law_cell"] spSigns f3 fd3) (c_law_vote : Cal P w K mg base CX0 1 "_law_vote" ["_law_signs_here"] (spVote K) f4 fd4)
    (c_law_same : Cal P w K mg base CX0 1 "_law_same" ["_law_found", "_law_due"] spSame f5 fd5) : FnOk P w K mg base CX0 2 f fd ["_law_script"] (spLaw K) := by
  refine F.ok sc_law (fun vs H Q E h => ?_) (fun cdv A outer s H vs Q E hr h => ?_)
  · obtain ⟨a, ns, rfl, _⟩ := h
    rfl
  · obtain ⟨a, ns, rfl, hS, hl, q⟩ := h
    have hu := hr.units
    refine ⟨_, (pss_cons (ps_set (i := 1) sc_law.nd rfl (Or.inr rfl) (pe_op op_cat (pe_own c_law_signs (hr.mono (by decide)) rfl (pa_cons (pe_own c_law_cell_at (hr.mono (by decide)) rfl (pa_cons (pv 0) (pa_cons pe_int pa_nil))) pa_nil)) (pe_lst (pa_cons pe_non pa_nil))))
        (pss_cons (ps_set (i := 2) sc_law.nd rfl (Or.inr rfl) (pe_op op_add pe_int (pe_op op_mod (pe_own c_law_cell_at (hr.mono (by decide)) rfl (pa_cons (pv 0) (pa_cons pe_int pa_nil))) pe_int)))
        (pss_cons (ps_setLc (i := 3) (own := [("_law_cell", 7)]) (g := gName 7) rfl sc_law.nd rfl rfl (sw_true rfl rfl rfl (by decide +kernel)) (pi_listK (K := K) rfl (pe_slice (sl_listK (K := K) rfl) (pv 0) (po_some pe_int) (po_some pe_int))) (blkOk_by (N := n_law) (sc := defScope s_law) (own := [("_law_cell", 7)]) (by decide +kernel)) (fun _ _ _ _ _ => (pg_name (i := 7) sc_law.nd rfl (Or.inl rfl))) (fun _ _ _ _ _ => pts_nil) (fun _ _ _ _ _ => (pe_ix (ix_listK (K := K) rfl) (pv 1) (pe_op op_mod (pe_op op_add (pv 7) (pe_op op_fdiv (pe_own c_law_cell_at (hr.mono (by decide)) rfl (pa_cons (pv 0) (pa_cons pe_int pa_nil))) pe_int)) (pv 2)) (fun _ _ => rfl))))
        (pss_join (ps_if (PW.pt (pw_and (pt_cmpR (neLK (K := K) rfl hu) (pv 3) (pe_lst pa_nil) (nomark _)) (pw_and1 (pt_cmpR op_eq (pe_op op_mod (pe_op op_fdiv (pe_own c_law_cell_at (hr.mono (by decide)) rfl (pa_cons (pv 0) (pa_cons pe_int pa_nil))) pe_int) pe_int) pe_int (nomark _)))))
          (pss_cons (ps_set (i := 4) sc_law.nd rfl (Or.inl rfl) (pe_op op_sub (pe_op op_add (pe_op op_fdiv (pe_callB (len_seqK (K := K) rfl) (by rfl) T.b_len bb_len (pa_cons (pv 3) pa_nil)) pe_int) (pe_op op_mod (pe_op op_fdiv (pe_own c_law_cell_at (hr.mono (by decide)) rfl (pa_cons (pv 0) (pa_cons pe_int pa_nil))) pe_int) pe_int)) pe_int))
            (pss_one (ps_for PassesOwn.never rfl (pi_range1 (by rfl) T.b_range (pa_cons (pe_callB (call_max2 rfl) (by rfl) T.b_max bb_max (pa_cons pe_int (pa_cons (pv 4) pa_nil))) pa_nil)) (pg_name (i := 5) sc_law.nd rfl (Or.inl rfl))
              (pss_one (ps_asg (pe_ix (ix_listK (K := K) rfl) (pv 1) (pe_op op_fdiv (pv 5) (pe_callB (len_seqK (K := K) rfl) (by rfl) T.b_len bb_len (pa_cons (pv 3) pa_nil))) (fun _ _ => rfl)) (pg_sub (pv 3) (pe_op op_mod (pe_op op_add (pe_op op_mul pe_int (pv 5)) (pe_op op_fdiv (pe_own c_law_cell_at (hr.mono (by decide)) rfl (pa_cons (pv 0) (pa_cons pe_int pa_nil))) pe_int)) (pe_callB (len_seqK (K := K) rfl) (by rfl) T.b_len bb_len (pa_cons (pv 3) pa_nil))) set_list))))))
          pss_nil)
        (pss_cons (ps_set (i := 6) sc_law.nd rfl (Or.inl rfl) (pe_callTy (list_ofK (K := K) rfl) (by rfl) T.b_list bb_list (pa_cons (pv 3) pa_nil)))
        (pss_one (ps_ret (pe_and (pe_own c_law_same (hr.mono (by decide)) rfl (pa_cons (pe_own c_vote (hr.mono (by decide)) rfl (pa_cons (pv 3) pa_nil)) (pa_cons (pe_own c_law_vote (hr.mono (by decide)) rfl (pa_cons (pv 6) pa_nil)) pa_nil))) (pe_and (pe_cmpR op_eq (pe_callB (len_seqK (K := K) rfl) (by rfl) T.b_len bb_len (pa_cons (pv 3) pa_nil)) (pe_callB (len_seqK (K := K) rfl) (by rfl) T.b_len bb_len (pa_cons (pv 6) pa_nil)) (nomark _)) (pe_one (pe_cmpR (eqLK (K := K) rfl hu) (pv 3) (pv 6) (nomark _)))))))))))), ?_⟩
    walk_at "rd"
    refine ⟨a, ns, 0, rfl, hS, hl, by decide, _, rfl, fun p H1 ss hp l1 hs h4 hg => ?_⟩
    walk_at "rd"
    intro n0 hn0
    have hs0 : (L2.upd H1 n0 (.lst [.non])) p = some (.lst (ss.map .str)) := by
      rw [upd_ne (ne_of_none hs hn0)]
      exact hs
    refine ⟨p, n0, _, _, rfl, rfl, hs0, upd_same, ?_, fun p1 hp1 => ?_⟩
    · rw [List.length_map, sizeLine_eq]
      show ss.length + 1 ≤ _
      omega
    generalize hS5 : ss.map some ++ [none] = S5
    have hgs : ∀ y ∈ S5, IsSg y := fun y hy => by
      rw [← hS5] at hy
      rcases List.mem_append.mp hy with h | h
      · obtain ⟨z, hz, rfl⟩ := List.mem_map.mp h
        exact hg z hz
      · rw [List.mem_singleton.mp h]
        exact True.intro
    have h5 : S5.length = 5 := by
      rw [← hS5, List.length_append, List.length_map, h4]
      rfl
    have e5 : ss.map V.str ++ [V.non] = S5.map sg := by
      rw [← hS5, List.map_append, strs_sg]
      rfl
    rw [e5]
    have l2 : Le H (L2.upd (L2.upd H1 n0 (.lst [.non])) p1 (.lst (S5.map sg))) := (l1.trans (.new hn0)).trans (.new hp1)
    have hp1s : (L2.upd (L2.upd H1 n0 (.lst [.non])) p1 (.lst (S5.map sg))) p1 = some (.lst (S5.map sg)) := upd_same
    generalize (L2.upd (L2.upd H1 n0 (.lst [.non])) p1 (.lst (S5.map sg))) = H2 at l2 hp1s ⊢
    refine ⟨a, ns, 1, rfl, l2.sql hS, hl, by decide, _, rfl, _, rfl, 2, rfl, 42, rfl, a, _, rfl, l2.sql hS, fun p3 hp3 => ⟨p3, rfl, ⟨_, .of upd_same⟩, fun D hD => ?_⟩⟩
    generalize hcut : cutV (ns.map V.int) (some 2) (some 42) = xs at hD ⊢
    have hxs : ∀ x ∈ xs, ∃ n, x = V.int n := fun x hx => by
      rw [← hcut] at hx
      obtain ⟨n, _, rfl⟩ := List.mem_map.mp (cutV_mem hx)
      exact ⟨n, rfl⟩
    have hxl : xs.length ≤ 63 := by
      rw [← hcut]
      refine Nat.le_trans (cutV_length _ _ _) ?_
      rw [List.length_map]
      exact hl
    have f1 : 0 < 1 + cell ns 1 % 5 ∧ 1 + cell ns 1 % 5 ≤ 5 := by omega
    refine lc_data (walk_listN rfl) hD (by omega) (fun i => some (sd (S5.getD (((xs[i]?.map iv).getD 0 + cell ns 1 / 5) % (1 + cell ns 1 % 5)).toNat none))) (fun H' l => l.sql (.of upd_same)) (fun i x H' H'' hi l hy Yk Nk kY kN => ?_) (fun H' ys l hys ha => ?_)
    · obtain ⟨rfl, hx⟩ := hy
      obtain ⟨n, rfl⟩ := hxs x (List.mem_of_getElem? hx)
      refine ⟨rfl, ?_⟩
      rw [hx] at kY
      have l3 : Le H H'' := (l2.trans (.new hp3)).trans l
      have hS5' : H'' p1 = some (.lst (S5.map sg)) := l.lst (by rw [upd_ne (ne_of_none hp1s hp3)]; exact hp1s)
      walk_at "rd"
      refine ⟨a, ns, 1, rfl, l3.sql hS, hl, by decide, _, rfl, f1.1, p1, _, _, sg (S5.getD ((n + cell ns 1 / 5) % (1 + cell ns 1 % 5)).toNat none), rfl, rfl, .of hS5', ?_, kY _ _ _ (.refl _) rfl (sd_at _)⟩
      have m0 : 0 ≤ (n + cell ns 1 / 5) % (1 + cell ns 1 % 5) := Int.emod_nonneg _ (by omega)
      have m1 : (n + cell ns 1 / 5) % (1 + cell ns 1 % 5) < 1 + cell ns 1 % 5 := Int.emod_lt_of_pos _ (by omega)
      refine at_of (j := ((n + cell ns 1 / 5) % (1 + cell ns 1 % 5)).toNat) (by omega) ?_
      rw [List.getElem?_map, List.getElem?_eq_getElem (by omega), List.getD_eq_getElem?_getD, List.getElem?_eq_getElem (by omega)]
      rfl
    · have l3 : Le H H' := (l2.trans (.new hp3)).trans l
      have hS5' : H' p1 = some (.lst (S5.map sg)) := l.lst (by rw [upd_ne (ne_of_none hp1s hp3)]; exact hp1s)
      obtain ⟨Z, rfl, hZl, hZ⟩ : ∃ Z : List (Option Str), ys = Z.map sg ∧ Z.length ≤ 63 ∧ ∀ z ∈ Z, IsSg z := by
        refine ⟨(List.range xs.length).map fun i => S5.getD (((xs[i]?.map iv).getD 0 + cell ns 1 / 5) % (1 + cell ns 1 % 5)).toNat none, ats_sd (H := H') (by rw [List.map_map, ← List.filterMap_eq_map]; exact ha), by rw [List.length_map, List.length_range]; exact hxl, fun z hz => ?_⟩
        obtain ⟨i, _, rfl⟩ := List.mem_map.mp hz
        rw [List.getD_eq_getElem?_getD]
        cases e : S5[(((xs[i]?.map iv).getD 0 + cell ns 1 / 5) % (1 + cell ns 1 % 5)).toNat]? with
        | none => exact True.intro
        | some y => exact hgs y (List.mem_of_getElem? e)
      have hpD : p1 ≠ D := ne_of_none (H := L2.upd H2 p3 (.lst xs)) (by rw [upd_ne (ne_of_none hp1s hp3)]; exact hp1s) hD
      have hDH : H D = none := ((l2.trans (.new hp3))).back hD
      refine ⟨fun σ' H' => ∃ (v4 v5 : Option V) (Z' : List (Option Str)), σ' = [some (.ref a), some (.ref p1), some (.int (1 + cell ns 1 % 5)), some (.ref D), v4, v5, none, none] ∧ Le H H' ∧ H' D = some (.lst (Z'.map sg)) ∧ Z'.length ≤ 63 ∧ ∀ z ∈ Z', IsSg z, ?_, ?_⟩
      · walk_at "rd"
        intro p4 hp4
        have l4 : Le H' (L2.upd H' p4 (.lst [])) := .new hp4
        refine ⟨D, p4, _, _, Z.map sd, [], rfl, rfl, .of (l4.lst hys), .of upd_same, sds_at Z, Ats.nil, IsSg.oks hZ, rfl, sds_dp Z, Nat.zero_le _, _, rfl, ite2 (fun hc => ?_) (fun hc => ?_)⟩
        · refine ⟨a, ns, 1, rfl, (l3.trans l4).sql hS, hl, by decide, _, rfl, ite2 (fun hc2 => ?_) (fun hc2 => ?_)⟩
          · have hne : 0 < Z.length := by
              cases Z with
              | nil => simp at hc
              | cons z Z => simp
            refine ⟨D, _, rfl, .inl (.of (l4.lst hys)), _, rfl, a, ns, 1, rfl, (l3.trans l4).sql hS, hl, by decide, _, rfl, ?_⟩
            rw [List.length_map]
            generalize hz : (Z.length : Int) / 2 + cell ns 1 / 75 % 3 - 1 = sz
            have z1 : sz ≤ 100 := by omega
            refine ⟨_, rfl, 0, sz, rfl, (if sz > 0 then sz else 0), rfl, by split <;> omega, by split <;> omega, for_it walk_range (fun i σ' H' => ∃ (v5 : Option V) (Z' : List (Option Str)), σ' = [some (.ref a), some (.ref p1), some (.int (1 + cell ns 1 % 5)), some (.ref D), some (.int sz), v5, none, none] ∧ Le H H' ∧ H' p1 = some (.lst (S5.map sg)) ∧ H' D = some (.lst (Z'.map sg)) ∧ Z'.length = Z.length ∧ ∀ z ∈ Z', IsSg z)
              ⟨_, Z, rfl, l3.trans l4, l4.lst hS5', l4.lst hys, rfl, hZ⟩ (fun _ _ _ _ _ => True.intro) ?_ ?_⟩
            · rintro i x σ1 H1' H2' hi ⟨v5, Z', rfl, k1, k2, k3, k4, k5⟩ ⟨rfl, rfl⟩
              walk_at "rd"
              have i1 : (i : Int) < 5 * Z.length := by
                have : (i : Int) < sz := by split at hi <;> omega
                omega
              have j0 : 0 ≤ (i : Int) / Z.length := Int.ediv_nonneg (by omega) (by omega)
              have j1 : (i : Int) / Z.length < 5 := Int.ediv_lt_of_lt_mul (by omega) i1
              refine ⟨D, _, rfl, .inl (.of k3), _, rfl, ?_⟩
              rw [List.length_map, k4]
              refine ⟨by omega, by omega, p1, _, _, sg (S5.getD ((i : Int) / Z.length).toNat none), rfl, rfl, .of k2, at_of (j := ((i : Int) / Z.length).toNat) (by omega) ?_, ?_⟩
              · rw [List.getElem?_map, List.getElem?_eq_getElem (by omega), List.getD_eq_getElem?_getD, List.getElem?_eq_getElem (by omega)]
                rfl
              · walk_at "rd"
                refine ⟨a, ns, 1, rfl, k1.sql hS, hl, by decide, _, rfl, D, _, rfl, .inl (.of k3), _, rfl, ?_⟩
                rw [List.length_map, k4]
                have n0 : 0 ≤ (7 * (i : Int) + cell ns 1 / 225) % (Z.length : Int) := Int.emod_nonneg _ (by omega)
                have n1 : (7 * (i : Int) + cell ns 1 / 225) % (Z.length : Int) < Z.length := Int.emod_lt_of_pos _ (by omega)
                refine ⟨by omega, _, k3, _, ixN_of n0 (by rw [List.length_map, k4]; exact n1), k1.mut hDH, by rw [upd_ne hpD]; exact k2, Z'.set ((7 * (i : Int) + cell ns 1 / 225) % (Z.length : Int)).toNat (S5.getD ((i : Int) / Z.length).toNat none), by rw [upd_same, List.map_set], by rw [List.length_set, k4], fun z hz => ?_⟩
                rcases List.mem_or_eq_of_mem_set hz with h | h
                · exact k5 z h
                · rw [h, List.getD_eq_getElem?_getD]
                  cases e : S5[((i : Int) / Z.length).toNat]? with
                  | none => exact True.intro
                  | some y => exact hgs y (List.mem_of_getElem? e)
            · rintro σ1 H1' ⟨v5, Z', rfl, k1, k2, k3, k4, k5⟩
              exact ⟨some (.int sz), v5, rfl, k1, Z', k3, by omega, k5⟩
          · exact ⟨l3.trans l4, Z, l4.lst hys, hZl, hZ⟩
        · exact ⟨l3.trans l4, Z, l4.lst hys, hZl, hZ⟩
      · rintro σ' H'' ⟨v4, v5, Z', rfl, l5, hD5, hl5, hZ'⟩
        walk_at "rd"
        refine ⟨D, _, rfl, .inl (.of hD5), fun p6 hp6 => ?_⟩
        have hD6 : (L2.upd H'' p6 (.lst (Z'.map sg))) D = some (.lst (Z'.map sg)) := by
          rw [upd_ne (ne_of_none hD5 hp6)]
          exact hD5
        refine ⟨D, Z', rfl, .of hD6, by omega, fun H7 l7 => ⟨p6, Z', rfl, .of (l7.lst upd_same), by omega, fun H8 l8 => ⟨_, _, rfl, _, rfl, ?_⟩⟩⟩
        rw [decide_eq_true rfl]
        have l9 := l7.trans l8
        refine iteT ⟨D, _, rfl, .inl (.of (l9.lst hD6)), p6, _, rfl, .inl (.of (l9.lst upd_same)), rfl, ?_⟩
        rw [decide_eq_true rfl]
        refine iteT ⟨D, p6, _, _, Z'.map sd, Z'.map sd, rfl, rfl, .of (l9.lst hD6), .of (l9.lst upd_same), sds_at Z', sds_at Z', IsSg.oks hZ', IsSg.oks hZ', sds_dp Z', sds_dp Z', ?_⟩
        rw [decide_eq_true rfl]
        exact q _
end
theorem all_mk {l : PySem.W.OpenLaw} {w : World} {K : PySem.W.Frag} {h : Heap} {mg : Str → Option Value} {fa f1 f2 f3 f4 f5 f6 : Addr} (X : K.In h) (G : h.Ns mainGlobals mg) (hfa : mg "law" = some (.ref fa))
    {od1 an1 od2 an2 od3 an3 od4 an4 od5 an5 od6 an6 : Option Addr} {sl1 sl2 sl3 sl4 sl5 sl6 : Array (Option Value)} {oc1 kV1 dc1 pm1 cd1 ct1 oc2 kV2 dc2 pm2 cd2 ct2 oc3 kV3 dc3 pm3 cd3 ct3 oc4 kV4 dc4 pm4 cd4 ct4 oc5 kV5 dc5 pm5 cd5 ct5 oc6 kV6 dc6 pm6 cd6 ct6 : Value}
    (a1 : PySem.W.nsIn K mainGlobals "vote" = some (some (.ref f1))) (l1 : K.lookup f1 = some ⟨oc1, od1, .func (PySem.W.fnOf "vote" "vote" (defArgs s_vote) (defBody s_vote) (defScope s_vote) .none kV1 dc1 pm1 an1 cd1 ct1), sl1⟩) (c1 : PySem.W.codeIn K cd1 "vote" = true) (k1 : PySem.W.keepIn K (.ref f1) = true)
    (a2 : PySem.W.nsIn K mainGlobals "_law_cell_at" = some (some (.ref f2))) (l2 : K.lookup f2 = some ⟨oc2, od2, .func (PySem.W.fnOf "_law_cell_at" "_law_cell_at" (defArgs s_law_cell_at) (defBody s_law_cell_at) (defScope s_law_cell_at) .none kV2 dc2 pm2 an2 cd2 ct2), sl2⟩) (c2 : PySem.W.codeIn K cd2 "_law_cell_at" = true) (k2 : PySem.W.keepIn K (.ref f2) = true)
    (a3 : PySem.W.nsIn K mainGlobals "_law_signs" = some (some (.ref f3))) (l3 : K.lookup f3 = some ⟨oc3, od3, .func (PySem.W.fnOf "_law_signs" "_law_signs" (defArgs s_law_signs) (defBody s_law_signs) (defScope s_law_signs) .none kV3 dc3 pm3 an3 cd3 ct3), sl3⟩) (c3 : PySem.W.codeIn K cd3 "_law_signs" = true) (k3 : PySem.W.keepIn K (.ref f3) = true)
    (a4 : PySem.W.nsIn K mainGlobals "_law_vote" = some (some (.ref f4))) (l4 : K.lookup f4 = some ⟨oc4, od4, .func (PySem.W.fnOf "_law_vote" "_law_vote" (defArgs s_law_vote) (defBody s_law_vote) (defScope s_law_vote) .none kV4 dc4 pm4 an4 cd4 ct4), sl4⟩) (c4 : PySem.W.codeIn K cd4 "_law_vote" = true) (k4 : PySem.W.keepIn K (.ref f4) = true)
    (a5 : PySem.W.nsIn K mainGlobals "_law_same" = some (some (.ref f5))) (l5 : K.lookup f5 = some ⟨oc5, od5, .func (PySem.W.fnOf "_law_same" "_law_same" (defArgs s_law_same) (defBody s_law_same) (defScope s_law_same) .none kV5 dc5 pm5 an5 cd5 ct5), sl5⟩) (c5 : PySem.W.codeIn K cd5 "_law_same" = true) (k5 : PySem.W.keepIn K (.ref f5) = true)
    (a6 : PySem.W.nsIn K mainGlobals "law" = some (some (.ref f6))) (l6 : K.lookup f6 = some ⟨oc6, od6, .func (PySem.W.fnOf "law" "law" (defArgs s_law) (defBody s_law) (defScope s_law) .none kV6 dc6 pm6 an6 cd6 ct6), sl6⟩) (c6 : PySem.W.codeIn K cd6 "law" = true) (k6 : PySem.W.keepIn K (.ref f6) = true)
    (z_range : PySem.W.nsIn K mainGlobals "range" = some none)
    (z_str : PySem.W.nsIn K mainGlobals "str" = some none)
    (z_int : PySem.W.nsIn K mainGlobals "int" = some none)
    (z_bool : PySem.W.nsIn K mainGlobals "bool" = some none)
    (z_list : PySem.W.nsIn K mainGlobals "list" = some none)
    (z_tuple : PySem.W.nsIn K mainGlobals "tuple" = some none)
    (z_dict : PySem.W.nsIn K mainGlobals "dict" = some none)
    (z_set : PySem.W.nsIn K mainGlobals "set" = some none)
    (z_enumerate : PySem.W.nsIn K mainGlobals "enumerate" = some none)
    (z_len : PySem.W.nsIn K mainGlobals "len" = some none)
    (z_isinstance : PySem.W.nsIn K mainGlobals "isinstance" = some none)
    (z_min : PySem.W.nsIn K mainGlobals "min" = some none)
    (z_max : PySem.W.nsIn K mainGlobals "max" = some none)
    (z_sum : PySem.W.nsIn K mainGlobals "sum" = some none)
    (z_all : PySem.W.nsIn K mainGlobals "all" = some none) :
    ∃ fd : FuncData, (∀ (s : Shared) (v : Value), BindsTo s fd ⟨[v], []⟩ [("_law_script", v)]) ∧ ∀ base : Heap, K.In base → base.Ns mainGlobals mg → FnOk l.prog w K mg base CX0 2 fa fd ["_law_script"] (spLaw K) := by
  have e := hfa.symm.trans (PySem.W.mg_of X G a6)
  cases e
  have T : Bt mg := ⟨PySem.W.mg_none_of X G z_range, PySem.W.mg_none_of X G z_str, PySem.W.mg_none_of X G z_int, PySem.W.mg_none_of X G z_bool, PySem.W.mg_none_of X G z_list, PySem.W.mg_none_of X G z_tuple, PySem.W.mg_none_of X G z_dict, PySem.W.mg_none_of X G z_set, PySem.W.mg_none_of X G z_enumerate, PySem.W.mg_none_of X G z_len, PySem.W.mg_none_of X G z_isinstance, PySem.W.mg_none_of X G z_min, PySem.W.mg_none_of X G z_max, PySem.W.mg_none_of X G z_sum, PySem.W.mg_none_of X G z_all⟩
  have F1 := fun_mk (st := s_vote) l1 c1 k1
  have b1 := F1.binds (ps := ["signs"]) fun _ _ _ _ _ _ us hl => match us, hl with | [_], _ => rfl
  have F2 := fun_mk (st := s_law_cell_at) l2 c2 k2
  have b2 := F2.binds (ps := ["_law_script", "_law_k"]) fun _ _ _ _ _ _ us hl => match us, hl with | [_, _], _ => rfl
  have F3 := fun_mk (st := s_law_signs) l3 c3 k3
  have b3 := F3.binds (ps := ["_law_cell"]) fun _ _ _ _ _ _ us hl => match us, hl with | [_], _ => rfl
  have F4 := fun_mk (st := s_law_vote) l4 c4 k4
  have b4 := F4.binds (ps := ["_law_signs_here"]) fun _ _ _ _ _ _ us hl => match us, hl with | [_], _ => rfl
  have F5 := fun_mk (st := s_law_same) l5 c5 k5
  have b5 := F5.binds (ps := ["_law_found", "_law_due"]) fun _ _ _ _ _ _ us hl => match us, hl with | [_, _], _ => rfl
  have F6 := fun_mk (st := s_law) l6 c6 k6
  refine ⟨PySem.W.fnOf "law" "law" (defArgs s_law) (defBody s_law) (defScope s_law) .none kV6 dc6 pm6 an6 cd6 ct6, fun s v => .of_eq rfl, fun base _ _ => ?_⟩
  have c_vote : Cal l.prog w K mg base CX0 1 "vote" ["signs"] (spVote K) f1 _ := ⟨ok_vote F1 T, PySem.W.mg_of X G a1, k1, b1⟩
  have c_law_cell_at : Cal l.prog w K mg base CX0 1 "_law_cell_at" ["_law_script", "_law_k"] (spCell K) f2 _ := ⟨ok_law_cell_at F2 T, PySem.W.mg_of X G a2, k2, b2⟩
  have c_law_signs : Cal l.prog w K mg base CX0 1 "_law_signs" ["_law_cell"] (spSigns) f3 _ := ⟨ok_law_signs F3 T, PySem.W.mg_of X G a3, k3, b3⟩
  have c_law_vote : Cal l.prog w K mg base CX0 1 "_law_vote" ["_law_signs_here"] (spVote K) f4 _ := ⟨ok_law_vote F4 T, PySem.W.mg_of X G a4, k4, b4⟩
  have c_law_same : Cal l.prog w K mg base CX0 1 "_law_same" ["_law_found", "_law_due"] (spSame) f5 _ := ⟨ok_law_same F5 T, PySem.W.mg_of X G a5, k5, b5⟩
  exact ok_law F6 T c_vote c_law_cell_at c_law_signs c_law_vote c_law_same
theorem walk {l : PySem.W.OpenLaw} {q : Program} {loose : List Str} {XP : (Str → Option Value) → Heap → Prop} {YP : World → Heap → Prop} {d : DefRec} {K : Params → PySem.W.Frag} (hn : l.most = some 63) (hdf : d.params.defaults = [])
    (hY : ∀ (w : World) (h : Heap), YP w h → (K w.params).In h)
    (F : ∀ (w : World) (mg : Str → Option Value) (fa : Addr) (h : Heap), (K w.params).In h → h.Ns mainGlobals mg → mg d.name = some (.ref fa) →
      ∃ fd : FuncData, (∀ (s : Shared) (u : Value), BindsTo s fd ⟨[u], []⟩ [("_law_script", u)]) ∧ ∀ base : Heap, (K w.params).In base → base.Ns mainGlobals mg → FnOk l.prog w (K w.params) mg base CX0 2 fa fd ["_law_script"] (spLaw (K w.params))) :
    PySem.W.WalkO q loose XP YP l.row.toRowW d [] (fun f vs => PySem.call f vs) :=
  L2.walk_of (n := 63) (k := 2) (x := "_law_script") (CX := fun _ => CX0) (sp := fun w => spLaw (K w.params)) hn (by decide) hdf ⟨rfl, by decide, by decide⟩ hY F (fun _ _ a ns hl _ hS => ⟨a, ns, rfl, hS, hl, fun _ => rfl⟩) fun _ _ _ _ _ z => z
end Lt
open PySem PySem.W PyProof.Rows
set_option maxRecDepth 100000 in
set_option maxHeartbeats 0 in
theorem PySem.Challenge.cw_lietable_k02_votes_holds : PySem.Challenge.rw_lietable_k02_votes.Holds := by
  w_on; o_law; k_head; (case hw => w_witness2)
  k_fill
  refine Lt.walk (l := PySem.Challenge.rw_lietable_k02_votes) rfl rfl (fun w h Y => PySem.W.kIn_of Y) ?F
  case F =>
    intro w mg fa h KX G hmg
    refine' Lt.all_mk KX G hmg ?a1 ?l1 ?c1 ?k1 ?a2 ?l2 ?c2 ?k2 ?a3 ?l3 ?c3 ?k3 ?a4 ?l4 ?c4 ?k4 ?a5 ?l5 ?c5 ?k5 ?a6 ?l6 ?c6 ?k6 ?z_range ?z_str ?z_int ?z_bool ?z_list ?z_tuple ?z_dict ?z_set ?z_enumerate ?z_len ?z_isinstance ?z_min ?z_max ?z_sum ?z_all
    (case a1 => k_is)
    (case l1 => k_is)
    (case c1 => k_is)
    (case k1 => k_is)
    (case a2 => k_is)
    (case l2 => k_is)
    (case c2 => k_is)
    (case k2 => k_is)
    (case a3 => k_is)
    (case l3 => k_is)
    (case c3 => k_is)
    (case k3 => k_is)
    (case a4 => k_is)
    (case l4 => k_is)
    (case c4 => k_is)
    (case k4 => k_is)
    (case a5 => k_is)
    (case l5 => k_is)
    (case c5 => k_is)
    (case k5 => k_is)
    (case a6 => k_is)
    (case l6 => k_is)
    (case c6 => k_is)
    (case k6 => k_is)
    (case z_range => k_is)
    (case z_str => k_is)
    (case z_int => k_is)
    (case z_bool => k_is)
    (case z_list => k_is)
    (case z_tuple => k_is)
    (case z_dict => k_is)
    (case z_set => k_is)
    (case z_enumerate => k_is)
    (case z_len => k_is)
    (case z_isinstance => k_is)
    (case z_min => k_is)
    (case z_max => k_is)
    (case z_sum => k_is)
    (case z_all => k_is)
#print axioms PySem.Challenge.cw_lietable_k02_votes_holds
