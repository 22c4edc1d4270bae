import PyProof.Rows.All
import Wide.All
import OpenK.AllK
import Wide.FinOn
import HandS.ForMost
import HandS.SetFor
import HandS.IsInst
import HandS.Flow
import HandS.Style
import HandS.Conv
import HandS.AnyAll
import HandS.Walk
import HandS.More
import HandS.Star
import KE.KDictKeyed
import KE.KDictCopyH
import KE.KTupTabMore
import PySem.Challenge.RW_lietable_k03_settled
set_option Elab.async false
set_option linter.all false
set_option maxRecDepth 100000
set_option maxHeartbeats 4000000
/-! Lt, part A: what grows, what stands; dicts by their own object. -/
namespace Lt
open PySem PySem.Spec PyProof.Rows L2

/-! ### heaps that grow -/
def isTbl : HO → Bool
  | .tbl _ => true
  | _ => false
/-- all that is tracked stands as it stood; a code table may have grown -/
structure Le (H H' : Hp) : Prop where
  ob : ∀ a o, H a = some o → isTbl o = false → H' a = some o
  tb : ∀ a ps, H a = some (.tbl ps) → ∃ qs, H' a = some (.tbl qs) ∧ (TriplesOk ps.toList → TriplesOk qs.toList)
theorem Le.refl (H : Hp) : Le H H := ⟨fun _ _ h _ => h, fun _ ps h => ⟨ps, h, id⟩⟩
theorem Le.trans {H H1 H2 : Hp} (p : Le H H1) (q : Le H1 H2) : Le H H2 :=
  ⟨fun a o h n => q.ob a o (p.ob a o h n) n, fun a ps h => by
    obtain ⟨qs, h1, t1⟩ := p.tb a ps h
    obtain ⟨rs, h2, t2⟩ := q.tb a qs h1
    exact ⟨rs, h2, fun t => t2 (t1 t)⟩⟩
theorem Le.back {H H' : Hp} (p : Le H H') {a : Addr} (h : H' a = none) : H a = none := by
  cases q : H a with
  | none => rfl
  | some o =>
    cases ht : isTbl o with
    | false =>
      rw [p.ob a o q ht] at h
      cases h
    | true =>
      cases o with
      | tbl ps =>
        obtain ⟨qs, h1, _⟩ := p.tb a ps q
        rw [h1] at h
        cases h
      | _ => cases ht
theorem Le.new {H : Hp} {p : Addr} {o : HO} (h : H p = none) : Le H (upd H p o) :=
  ⟨fun a u e _ => by rw [upd_ne (ne_of_none e h)]; exact e, fun a ps e => ⟨ps, by rw [upd_ne (ne_of_none e h)]; exact e, id⟩⟩
/-- what was not there ahead may be written -/
theorem Le.mut {H H' : Hp} {p : Addr} {o : HO} (e : Le H H') (h : H p = none) : Le H (upd H' p o) :=
  ⟨fun a u ha n => by rw [upd_ne (ne_of_none ha h)]; exact e.ob a u ha n, fun a ps ha => by rw [upd_ne (ne_of_none ha h)]; exact e.tb a ps ha⟩
theorem Le.lst {H H' : Hp} (p : Le H H') {a : Addr} {xs : List V} (h : H a = some (.lst xs)) : H' a = some (.lst xs) := p.ob a _ h rfl
theorem Le.tup {H H' : Hp} (p : Le H H') {a : Addr} {xs : List V} (h : H a = some (.tup xs)) : H' a = some (.tup xs) := p.ob a _ h rfl
theorem Le.ext {H H' : Hp} (p : Le H H') {a : Addr} {f : Heap → Prop} (h : H a = some (.ext f)) : H' a = some (.ext f) := p.ob a _ h rfl
theorem Le.ins {H H' : Hp} (p : Le H H') {a C d : Addr} {fs : List (Str × V)} (h : H a = some (.ins C d fs)) : H' a = some (.ins C d fs) := p.ob a _ h rfl
theorem Le.frz {H H' : Hp} (p : Le H H') {a : Addr} {o : Obj} {u : HO} (h : H a = some (.frz o u)) : H' a = some (.frz o u) := p.ob a _ h rfl
theorem Le.rd {H H' : Hp} (p : Le H H') {a : Addr} {u : HO} (n : isTbl u = false) (h : Rd H a u) : Rd H' a u := by
  rcases h with h | ⟨o, h⟩
  · exact .inl (p.ob a _ h n)
  · exact .inr ⟨o, p.frz h⟩
theorem Le.sql {K : PySem.W.Frag} {H H' : Hp} (p : Le H H') {a : Addr} {xs : List V} (h : SqL K H a xs) : SqL K H' a xs := by
  rcases h with h | h
  · exact .inl (p.rd rfl h)
  · exact .inr h
theorem Le.sqt {K : PySem.W.Frag} {H H' : Hp} (p : Le H H') {a : Addr} {xs : List V} (h : SqT K H a xs) : SqT K H' a xs := by
  rcases h with h | h
  · exact .inl (p.rd rfl h)
  · exact .inr h
theorem Le.same {H H' : Hp} (s : Same H H') : Le H H' := ⟨fun a o h _ => s a o h, fun a ps h => ⟨ps, s a _ h, id⟩⟩

/-! ### a thing by its very object -/
def raw (a : Addr) (o : Obj) : HO := .ext fun h => h.get? a = some o
theorem raw_ok {P : Program} {w : World} {H : Hp} {h : Heap} {a : Addr} {o : Obj} (e : h.get? a = some o) : ObjOk P w H h a (raw a o) :=
  ⟨e, ⟨o, e⟩, fun _ _ p k => k o p⟩
theorem raw_get {P : Program} {w : World} {H : Hp} {h : Heap} {a : Addr} {o : Obj} (ok : HOk P w H h) (e : H a = some (raw a o)) : h.get? a = some o := (ok a _ e).1

section
variable {X : Cx} {pins : List (Addr × Obj)} {σ : L2.St} {H : Hp} {s : Shared} {a : Addr}
/-- a tracked dict's object is replaced -/
theorem Inv.rawset {o o' : Obj} {h' : Heap} {t' : Nat} (I : Inv X pins σ H s) (e : H a = some (raw a o)) (hs : Heap.SameBut a s.heap h') (he : h'.get? a = some o') :
    Inv X pins σ (upd H a (raw a o')) { s with heap := h', toks := t' } :=
  I.write (x := a) (e := a) (by rw [e]; exact True.intro) (.inl rfl) (fun b q hb z => (hs.2 b hb).trans z) ⟨o', he⟩ (raw_ok he)
theorem Inv.rawnew {o : Obj} {h' : Heap} {t' : Nat} (I : Inv X pins σ H s) (k : ∀ b u, s.heap.get? b = some u → h'.get? b = some u) (hp : s.heap.objs.size ≤ a) (he : h'.get? a = some o) :
    Inv X pins σ (upd H a (raw a o)) { s with heap := h', toks := t' } := I.laid k hp (raw_ok he)
end
theorem nosys {X : Cx} {pins : List (Addr × Obj)} {σ : L2.St} {H : Hp} {s : Shared} (I : Inv X pins σ H s) {a : Addr} (h : s.heap.objs.size ≤ a) : (a == sysModules) = false :=
  beq_eq_false_iff_ne.mpr (Ne.symm (Nat.ne_of_lt (Nat.lt_of_lt_of_le I.big h)))

/-! ### data that never changes: a whole number, a text, nothing, a tuple of such -/
abbrev D := NestedKey
mutual
/-- the value v is the datum d -/
def At (H : Hp) : D → V → Prop
  | .none, v => v = .non
  | .num i, v => v = .int i
  | .text x, v => v = .str x
  | .tup ks, v => ∃ b xs, v = .ref b ∧ H b = some (.tup xs) ∧ Ats H ks xs
def Ats (H : Hp) : List D → List V → Prop
  | [], xs => xs = []
  | k :: ks, xs => ∃ v r, xs = v :: r ∧ At H k v ∧ Ats H ks r
end
mutual
theorem At.keep {H H' : Hp} (k : ∀ a xs, H a = some (.tup xs) → H' a = some (.tup xs)) : ∀ (d : D) (v : V), At H d v → At H' d v
  | .none, _, h => h
  | .num _, _, h => h
  | .text _, _, h => h
  | .tup ks, v, h => by
    rw [At] at h
    obtain ⟨b, xs, e, hb, hs⟩ := h
    rw [At]
    exact ⟨b, xs, e, k b xs hb, Ats.keep k ks xs hs⟩
theorem Ats.keep {H H' : Hp} (k : ∀ a xs, H a = some (.tup xs) → H' a = some (.tup xs)) : ∀ (ds : List D) (vs : List V), Ats H ds vs → Ats H' ds vs
  | [], _, h => h
  | d :: ds, vs, h => by
    rw [Ats] at h
    obtain ⟨v, r, e, h1, h2⟩ := h
    rw [Ats]
    exact ⟨v, r, e, At.keep k d v h1, Ats.keep k ds r h2⟩
end
mutual
theorem At.inj {H : Hp} : ∀ (d e : D) (v : V), At H d v → At H e v → d = e
  | .none, e, v, h1, h2 => by
    rw [At] at h1
    subst h1
    cases e with
    | none => rfl
    | num i => rw [At] at h2; cases h2
    | text x => rw [At] at h2; cases h2
    | tup ks => rw [At] at h2; obtain ⟨_, _, q, _⟩ := h2; cases q
  | .num i, e, v, h1, h2 => by
    rw [At] at h1
    subst h1
    cases e with
    | none => rw [At] at h2; cases h2
    | num j => rw [At] at h2; cases h2; rfl
    | text x => rw [At] at h2; cases h2
    | tup ks => rw [At] at h2; obtain ⟨_, _, q, _⟩ := h2; cases q
  | .text x, e, v, h1, h2 => by
    rw [At] at h1
    subst h1
    cases e with
    | none => rw [At] at h2; cases h2
    | num j => rw [At] at h2; cases h2
    | text y => rw [At] at h2; cases h2; rfl
    | tup ks => rw [At] at h2; obtain ⟨_, _, q, _⟩ := h2; cases q
  | .tup ks, e, v, h1, h2 => by
    rw [At] at h1
    obtain ⟨b, xs, q, hb, hs⟩ := h1
    subst q
    cases e with
    | none => rw [At] at h2; cases h2
    | num j => rw [At] at h2; cases h2
    | text y => rw [At] at h2; cases h2
    | tup ls =>
      rw [At] at h2
      obtain ⟨b', xs', q', hb', hs'⟩ := h2
      cases q'
      rw [hb] at hb'
      cases hb'
      rw [Ats.inj ks ls xs hs hs']
theorem Ats.inj {H : Hp} : ∀ (d e : List D) (v : List V), Ats H d v → Ats H e v → d = e
  | [], e, v, h1, h2 => by
    rw [Ats] at h1
    subst h1
    cases e with
    | nil => rfl
    | cons a as => rw [Ats] at h2; obtain ⟨_, _, q, _⟩ := h2; cases q
  | d :: ds, e, v, h1, h2 => by
    rw [Ats] at h1
    obtain ⟨x, r, q, ha, hs⟩ := h1
    subst q
    cases e with
    | nil => rw [Ats] at h2; cases h2
    | cons a as =>
      rw [Ats] at h2
      obtain ⟨x', r', q', ha', hs'⟩ := h2
      cases q'
      rw [At.inj d a x ha ha', Ats.inj ds as r hs hs']
end
theorem At.le {H H' : Hp} (l : Le H H') {d : D} {v : V} (h : At H d v) : At H' d v := At.keep (fun _ _ e => l.tup e) d v h
theorem Ats.le {H H' : Hp} (l : Le H H') {d : List D} {v : List V} (h : Ats H d v) : Ats H' d v := Ats.keep (fun _ _ e => l.tup e) d v h
theorem At.int {H : Hp} {i : Int} : At H (.num i) (.int i) := by rw [At]
theorem At.str {H : Hp} {x : Str} : At H (.text x) (.str x) := by rw [At]
theorem At.non {H : Hp} : At H .none .non := by rw [At]
theorem At.tup {H : Hp} {ks : List D} {b : Addr} {xs : List V} (hb : H b = some (.tup xs)) (h : Ats H ks xs) : At H (.tup ks) (.ref b) := by rw [At]; exact ⟨b, xs, rfl, hb, h⟩
theorem Ats.nil {H : Hp} : Ats H [] [] := by rw [Ats]
theorem Ats.cons {H : Hp} {d : D} {ds : List D} {v : V} {vs : List V} (h : At H d v) (t : Ats H ds vs) : Ats H (d :: ds) (v :: vs) := by rw [Ats]; exact ⟨v, vs, rfl, h, t⟩
theorem At.of_int {H : Hp} {i : Int} {v : V} (h : At H (.num i) v) : v = .int i := by rw [At] at h; exact h
theorem At.of_str {H : Hp} {i : Str} {v : V} (h : At H (.text i) v) : v = .str i := by rw [At] at h; exact h
theorem At.of_non {H : Hp} {v : V} (h : At H .none v) : v = .non := by rw [At] at h; exact h
theorem At.of_tup {H : Hp} {ks : List D} {v : V} (h : At H (.tup ks) v) : ∃ b xs, v = .ref b ∧ H b = some (.tup xs) ∧ Ats H ks xs := by rw [At] at h; exact h
theorem Ats.of_nil {H : Hp} {vs : List V} (h : Ats H [] vs) : vs = [] := by rw [Ats] at h; exact h
theorem Ats.of_cons {H : Hp} {d : D} {ds : List D} {vs : List V} (h : Ats H (d :: ds) vs) : ∃ v r, vs = v :: r ∧ At H d v ∧ Ats H ds r := by rw [Ats] at h; exact h
theorem Ats.length {H : Hp} : ∀ {ds : List D} {vs : List V}, Ats H ds vs → vs.length = ds.length
  | [], _, h => by rw [h.of_nil]; rfl
  | d :: ds, _, h => by
    obtain ⟨v, r, e, _, t⟩ := h.of_cons
    rw [e, List.length_cons, List.length_cons, Ats.length t]
theorem Ats.get {H : Hp} : ∀ {ds : List D} {vs : List V} {i : Nat} {d : D}, Ats H ds vs → ds[i]? = some d → ∃ v, vs[i]? = some v ∧ At H d v
  | [], _, _, _, _, e => by simp at e
  | d :: ds, _, i, k, h, e => by
    obtain ⟨v, r, q, h1, t⟩ := h.of_cons
    subst q
    cases i with
    | zero =>
      simp at e
      subst e
      exact ⟨v, rfl, h1⟩
    | succ i =>
      obtain ⟨u, hu, a⟩ := Ats.get (i := i) t (by simpa using e)
      exact ⟨u, by simpa using hu, a⟩
theorem Ats.get' {H : Hp} : ∀ {ds : List D} {vs : List V} {i : Nat} {v : V}, Ats H ds vs → vs[i]? = some v → ∃ d, ds[i]? = some d ∧ At H d v
  | [], _, _, _, h, e => by rw [h.of_nil] at e; simp at e
  | d :: ds, _, i, k, h, e => by
    obtain ⟨v, r, q, h1, t⟩ := h.of_cons
    subst q
    cases i with
    | zero =>
      simp at e
      subst e
      exact ⟨d, rfl, h1⟩
    | succ i =>
      obtain ⟨u, hu, a⟩ := Ats.get' (i := i) t (by simpa using e)
      exact ⟨u, by simpa using hu, a⟩
theorem Ats.app {H : Hp} : ∀ {ds es : List D} {vs us : List V}, Ats H ds vs → Ats H es us → Ats H (ds ++ es) (vs ++ us)
  | [], _, _, _, h, t => by rw [h.of_nil]; exact t
  | d :: ds, es, _, us, h, t => by
    obtain ⟨v, r, q, h1, h2⟩ := h.of_cons
    subst q
    exact Ats.cons h1 (Ats.app h2 t)
theorem Ats.take {H : Hp} : ∀ (n : Nat) {ds : List D} {vs : List V}, Ats H ds vs → Ats H (ds.take n) (vs.take n)
  | 0, _, _, _ => Ats.nil
  | n + 1, [], _, h => by rw [h.of_nil]; exact Ats.nil
  | n + 1, d :: ds, _, h => by
    obtain ⟨v, r, q, h1, h2⟩ := h.of_cons
    subst q
    exact Ats.cons h1 (Ats.take n h2)
theorem Ats.drop {H : Hp} : ∀ (n : Nat) {ds : List D} {vs : List V}, Ats H ds vs → Ats H (ds.drop n) (vs.drop n)
  | 0, _, _, h => h
  | n + 1, [], _, h => by rw [h.of_nil]; exact Ats.nil
  | n + 1, d :: ds, _, h => by
    obtain ⟨v, r, q, h1, h2⟩ := h.of_cons
    subst q
    exact Ats.drop n h2
/-- the leaves are their own values -/
theorem Ats.ints {H : Hp} : ∀ {ns : List Int} {vs : List V}, Ats H (ns.map .num) vs → vs = ns.map .int
  | [], _, h => h.of_nil
  | n :: ns, _, h => by
    obtain ⟨v, r, q, h1, h2⟩ := Ats.of_cons h
    rw [q, h1.of_int, Ats.ints h2]
    rfl
theorem ats_ints {H : Hp} : ∀ (ns : List Int), Ats H (ns.map .num) (ns.map .int)
  | [] => Ats.nil
  | n :: ns => Ats.cons At.int (ats_ints ns)

/-! ### the data in the heap itself -/
mutual
theorem At.isk {P : Program} {w : World} {H : Hp} {h : Heap} (ok : HOk P w H h) : ∀ (d : D) (v : V) (u : Value), At H d v → RelV v u → NestedIs h d u
  | .none, _, _, a, r => by
    rw [a.of_non] at r
    cases r
    exact .none
  | .num i, _, _, a, r => by
    rw [a.of_int] at r
    obtain ⟨t, e⟩ := (show ∃ t, _ = Value.int i t from r)
    rw [e]
    exact .int i t
  | .text x, _, _, a, r => by
    rw [a.of_str] at r
    obtain ⟨t, e⟩ := (show ∃ t, _ = Value.str x t from r)
    rw [e]
    exact .text x t
  | .tup ks, _, _, a, r => by
    obtain ⟨b, xs, e, hb, hs⟩ := a.of_tup
    rw [e] at r
    cases r
    obtain ⟨_, its, rv, o, h1, h2, n, h3⟩ := (show ObjOk P w H h b (.tup xs) from ok b _ hb)
    exact .tup h1 h2 h3 (by simpa using Ats.isk ok ks xs its hs rv)
theorem Ats.isk {P : Program} {w : World} {H : Hp} {h : Heap} (ok : HOk P w H h) : ∀ (ds : List D) (vs : List V) (us : List Value), Ats H ds vs → Vals vs us → NestedAll h ds us
  | [], _, _, a, r => by
    rw [a.of_nil] at r
    cases r
    exact .nil
  | d :: ds, _, _, a, r => by
    obtain ⟨v, rs, e, h1, h2⟩ := a.of_cons
    rw [e] at r
    cases r with
    | cons r1 r2 => exact .cons (At.isk ok d v _ h1 r1) (Ats.isk ok ds rs _ h2 r2)
end
end Lt

/-! Lt, part B: dicts by their own object: keys that are leaves, keys that are tuples. -/
namespace Lt
open PySem PySem.Spec PyProof.Rows L2

/-! ### keys: nothing and texts -/
def lf : Option Str → Leaf
  | none => .none
  | some x => .text x
def sg : Option Str → V
  | none => .non
  | some x => .str x
theorem lf_inj {a b : Option Str} (h : lf a = lf b) : a = b := by
  cases a <;> cases b <;> first | rfl | (injection h with h; rw [h]) | cases h
theorem sg_inj {a b : Option Str} (h : sg a = sg b) : a = b := by
  cases a <;> cases b <;> first | rfl | (injection h with h; rw [h]) | cases h
theorem sg_is {P : Program} {w : World} {k : Option Str} {u : Value} (r : RelV (sg k) u) : (leafKind P w).is (lf k) u = true := by
  cases k with
  | none =>
    cases r
    exact leaf_none
  | some x =>
    obtain ⟨t, e⟩ := (show ∃ t, u = Value.str x t from r)
    rw [e]
    exact leaf_str x t
theorem is_sg {P : Program} {w : World} {k : Option Str} {u : Value} (r : (leafKind P w).is (lf k) u = true) : RelV (sg k) u := by
  cases k with
  | none =>
    have q := Leaf.nested (h := default) (show Leaf.isOf (lf none) u = true from r)
    cases q
    exact rfl
  | some x =>
    have q := Leaf.nested (h := default) (show Leaf.isOf (lf (some x)) u = true from r)
    cases q with
    | text _ t => exact ⟨t, rfl⟩

def lfs (kvs : List (Option Str × V)) : List (Leaf × V) := kvs.map fun p => (lf p.1, p.2)
theorem valV_lfs (k : Option Str) : ∀ kvs : List (Option Str × V), valV (lfs kvs) (lf k) = valV kvs k
  | [] => rfl
  | p :: r => by
    have ih := valV_lfs k r
    show valV ((lf p.1, p.2) :: lfs r) (lf k) = valV (p :: r) k
    by_cases e : p.1 = k
    · rw [valV_pos e, valV_pos (p := (lf p.1, p.2)) (by rw [e])]
    · rw [valV_neg e, valV_neg (p := (lf p.1, p.2)) (fun z => e (lf_inj z)), ih]
theorem putK_lfs (k : Option Str) (v : V) (kvs : List (Option Str × V)) : putK (lfs kvs) (lf k) v = lfs (putK kvs k v) := by
  have e : ((lfs kvs).any fun kv => decide (kv.1 = lf k)) = kvs.any fun kv => decide (kv.1 = k) := by
    rw [valV_any, valV_any, valV_lfs]
  unfold putK
  rw [e]
  by_cases q : (kvs.any fun kv => decide (kv.1 = k)) = true
  · rw [if_pos q, if_pos q]
    unfold lfs
    rw [List.map_map, List.map_map]
    refine List.map_congr_left fun p _ => ?_
    show (if lf p.1 = lf k then (lf p.1, v) else (lf p.1, p.2)) = (lf (if p.1 = k then (p.1, v) else p).1, (if p.1 = k then (p.1, v) else p).2)
    by_cases z : p.1 = k
    · rw [if_pos z, if_pos (by rw [z])]
    · rw [if_neg z, if_neg (fun y => z (lf_inj y))]
  · rw [if_neg q, if_neg q]
    unfold lfs
    rw [List.map_append]
    rfl

/-- the object is a dict with these keys and values -/
def IsLD (P : Program) (w : World) (o : Obj) (kvs : List (Option Str × V)) : Prop :=
  kvs.length ≤ sizeLine ∧ ∃ es ep vs, o.ExactDict ∧ o.data = .dict es ep ∧ KeysOf (leafKind P w) es ∧ Pairs (leafKind P w) es.toList vs ∧ (vs.map (·.1)).Nodup ∧ KV (lfs kvs) vs
def LD (P : Program) (w : World) (H : Hp) (a : Addr) (kvs : List (Option Str × V)) : Prop := (a == sysModules) = false ∧ ∃ o, H a = some (raw a o) ∧ IsLD P w o kvs
theorem LD.le {P : Program} {w : World} {H H' : Hp} {a : Addr} {kvs : List (Option Str × V)} (h : LD P w H a kvs) (l : Le H H') : LD P w H' a kvs :=
  let ⟨y, o, e, i⟩ := h; ⟨y, o, l.ext e, i⟩

/-! ### keys: tuples of data -/
/-- entries: the keys' own tuples at the addresses -/
def Ent (H : Hp) : List (D × V) → List (D × Addr × Value) → Prop := Paired fun p q => p.1 = q.1 ∧ (At H p.1 (.ref q.2.1) ∧ p.1.depth ≤ 8) ∧ RelV p.2 q.2.2
def IsND (P : Program) (w : World) (H : Hp) (o : Obj) (kvs : List (D × V)) : Prop :=
  kvs.length ≤ sizeLine ∧ ∃ es ep xs, o.ExactDict ∧ o.data = .dict es ep ∧ es.toList = xs.map (entryOfKey (nestedKind P w)) ∧ (xs.map (·.1)).Nodup ∧ Ent H kvs xs
def ND (P : Program) (w : World) (H : Hp) (a : Addr) (kvs : List (D × V)) : Prop := (a == sysModules) = false ∧ ∃ o, H a = some (raw a o) ∧ IsND P w H o kvs
/-- the tuples stand -/
def Tups (H H' : Hp) : Prop := ∀ a xs, H a = some (.tup xs) → H' a = some (.tup xs)
theorem Le.tups {H H' : Hp} (l : Le H H') : Tups H H' := fun _ _ e => l.tup e
theorem Tups.trans {H H1 H2 : Hp} (a : Tups H H1) (b : Tups H1 H2) : Tups H H2 := fun p xs e => b p xs (a p xs e)
theorem Tups.refl (H : Hp) : Tups H H := fun _ _ e => e
/-- what is no tuple may be written -/
theorem tups_upd {H : Hp} {a : Addr} {o u : HO} (h : H a = some o) (n : ∀ xs, o ≠ .tup xs) : Tups H (upd H a u) := fun b xs e => by
  rw [upd_ne (ne_of e h (fun z => n xs z.symm))]
  exact e
theorem tups_new {H : Hp} {a : Addr} {u : HO} (h : H a = none) : Tups H (upd H a u) := fun b xs e => by
  rw [upd_ne (ne_of_none e h)]
  exact e
theorem At.tp {H H' : Hp} (l : Tups H H') {d : D} {v : V} (h : At H d v) : At H' d v := At.keep l d v h
theorem Ats.tp {H H' : Hp} (l : Tups H H') {d : List D} {v : List V} (h : Ats H d v) : Ats H' d v := Ats.keep l d v h
theorem Ent.tp {H H' : Hp} (l : Tups H H') {kvs : List (D × V)} {xs : List (D × Addr × Value)} (r : Ent H kvs xs) : Ent H' kvs xs :=
  Paired.mapP r fun _ _ z => ⟨z.1, ⟨z.2.1.1.tp l, z.2.1.2⟩, z.2.2⟩
theorem IsND.tp {P : Program} {w : World} {H H' : Hp} (l : Tups H H') {o : Obj} {kvs : List (D × V)} (h : IsND P w H o kvs) : IsND P w H' o kvs :=
  let ⟨z, es, ep, xs, h1, h2, h3, h4, r⟩ := h; ⟨z, es, ep, xs, h1, h2, h3, h4, r.tp l⟩
theorem ND.at {P : Program} {w : World} {H H' : Hp} {a : Addr} {kvs : List (D × V)} (h : ND P w H a kvs) (l : Tups H H') (e : ∀ o, H a = some (raw a o) → H' a = some (raw a o)) : ND P w H' a kvs :=
  let ⟨y, o, q, i⟩ := h; ⟨y, o, e o q, i.tp l⟩
theorem ND.le {P : Program} {w : World} {H H' : Hp} {a : Addr} {kvs : List (D × V)} (h : ND P w H a kvs) (l : Le H H') : ND P w H' a kvs := h.at l.tups fun _ e => l.ext e

theorem Ent.val {H : Hp} {kvs : List (D × V)} {xs : List (D × Addr × Value)} (r : Ent H kvs xs) (k : D) : RelO (valV kvs k) ((atKey xs k).map (·.2)) := by
  unfold Ent at r
  induction r with
  | nil => exact True.intro
  | @cons p q ps qs h t ih =>
    obtain ⟨h1, _, h2⟩ := h
    by_cases e : p.1 = k
    · have e' : q.1 = k := h1.symm.trans e
      have b : atKey (q :: qs) k = some q.2 := by simp [atKey, List.find?_cons, e']
      rw [valV_pos e, b]
      exact h2
    · have e' : ¬ q.1 = k := fun z => e (h1.trans z)
      have b : atKey (q :: qs) k = atKey qs k := by simp [atKey, List.find?_cons, e']
      rw [valV_neg e, b]
      exact ih
theorem Ent.repl {H : Hp} {kvs : List (D × V)} {xs : List (D × Addr × Value)} (r : Ent H kvs xs) (k : D) {y : V} {u : Value} (ry : RelV y u) :
    Ent H (kvs.map fun kv => if kv.1 = k then (kv.1, y) else kv) (xs.map (putAt k u)) := by
  unfold Ent at r ⊢
  induction r with
  | nil => exact .nil
  | @cons p q ps qs h t ih =>
    rw [List.map_cons, List.map_cons]
    refine .cons ?_ ih
    obtain ⟨h1, h2, h3⟩ := h
    unfold putAt
    by_cases e : p.1 = k
    · rw [if_pos e, if_pos (h1.symm.trans e)]
      exact ⟨h1, h2, ry⟩
    · rw [if_neg e, if_neg (fun z => e (h1.trans z))]
      exact ⟨h1, h2, h3⟩
theorem Ent.put {H : Hp} {kvs : List (D × V)} {xs : List (D × Addr × Value)} (r : Ent H kvs xs) {k : D} {b : Addr} {y : V} {u : Value} (hb : At H k (.ref b)) (hd : k.depth ≤ 8) (ry : RelV y u) :
    Ent H (putK kvs k y) (storedH xs k b u) := by
  have e : (kvs.any fun kv => decide (kv.1 = k)) = (atKey xs k).isSome := by
    rw [valV_any, (r.val k).isSome_eq, Option.isSome_map]
  unfold putK storedH
  rw [e]
  by_cases q : (atKey xs k).isSome = true
  · rw [if_pos q, if_pos q]
    exact r.repl k ry
  · rw [if_neg q, if_neg q]
    exact Paired.snoc r ⟨rfl, ⟨hb, hd⟩, ry⟩
theorem Ent.length {H : Hp} {kvs : List (D × V)} {xs : List (D × Addr × Value)} (r : Ent H kvs xs) : kvs.length = xs.length := Paired.length r
theorem Ent.get {H : Hp} {kvs : List (D × V)} {xs : List (D × Addr × Value)} (r : Ent H kvs xs) : ∀ {i : Nat} {p : D × V}, kvs[i]? = some p → ∃ q, xs[i]? = some q ∧ p.1 = q.1 ∧ (At H p.1 (.ref q.2.1) ∧ p.1.depth ≤ 8) ∧ RelV p.2 q.2.2 := by
  unfold Ent at r
  induction r with
  | nil =>
    intro i p e
    simp at e
  | @cons p q ps qs h t ih =>
    intro i p' e
    cases i with
    | zero =>
      simp at e
      subst e
      exact ⟨q, rfl, h⟩
    | succ i =>
      obtain ⟨q', h1, h2⟩ := ih (by simpa using e)
      exact ⟨q', by simpa using h1, h2⟩
theorem Ent.keys {H : Hp} {kvs : List (D × V)} {xs : List (D × Addr × Value)} (r : Ent H kvs xs) : kvs.map (·.1) = xs.map (·.1) := by
  unfold Ent at r
  induction r with
  | nil => rfl
  | cons h t ih => rw [List.map_cons, List.map_cons, ih, h.1]

section
variable {P : Program} {w : World} {H : Hp} {h : Heap} {a : Addr}
theorem LD.dict {kvs : List (Option Str × V)} (ok : HOk P w H h) (e : LD P w H a kvs) : kvs.length ≤ sizeLine ∧ (a == sysModules) = false ∧ ∃ vs, KV (lfs kvs) vs ∧ h.DictOf (leafKind P w) a vs := by
  obtain ⟨y, o, ho, z, es, ep, vs, h1, h2, h3, h4, h5, r⟩ := e
  exact ⟨z, y, vs, r, o, es, ep, raw_get ok ho, h1, h2, h3, h4, h5⟩
theorem ent_is {kvs : List (D × V)} {xs : List (D × Addr × Value)} (ok : HOk P w H h) (r : Ent H kvs xs) : ∀ x ∈ xs, (nestedKind P w).is h x.1 x.2.1 := by
  intro x hx
  obtain ⟨i, hi⟩ := List.mem_iff_getElem?.mp hx
  have hl : i < kvs.length := by
    rw [r.length]
    exact (List.getElem?_eq_some_iff.mp hi).1
  obtain ⟨q, hq, e, ⟨h1, h2⟩, _⟩ := r.get (List.getElem?_eq_getElem hl)
  rw [hi] at hq
  cases hq
  rw [← e]
  exact ⟨At.isk ok _ _ _ h1 rfl, h2⟩
theorem key_is {k : D} {b : Addr} (ok : HOk P w H h) (a : At H k (.ref b)) (hd : k.depth ≤ 8) : (nestedKind P w).is h k b := ⟨At.isk ok _ _ _ a rfl, hd⟩
theorem ND.dict {kvs : List (D × V)} (ok : HOk P w H h) (e : ND P w H a kvs) : kvs.length ≤ sizeLine ∧ (a == sysModules) = false ∧ ∃ xs, Ent H kvs xs ∧ h.DictOfH (nestedKind P w) a xs := by
  obtain ⟨y, o, ho, z, es, ep, xs, h1, h2, h3, h4, r⟩ := e
  exact ⟨z, y, xs, r, o, es, ep, raw_get ok ho, h1, h2, h3, ent_is ok r, h4⟩
theorem ND.nodup {kvs : List (D × V)} (e : ND P w H a kvs) : (kvs.map (·.1)).Nodup := by
  obtain ⟨y, o, ho, z, es, ep, xs, h1, h2, h3, h4, r⟩ := e
  rw [r.keys]
  exact h4
end

/-! ### what is found at a key, what stands behind a store -/
def DG (P : Program) (w : World) (H : Hp) (a : Addr) (y : V) (r : Option V) : Prop :=
  (∃ kvs k, LD P w H a kvs ∧ y = sg k ∧ r = valV kvs k) ∨ ∃ kvs k b, ND P w H a kvs ∧ y = .ref b ∧ At H k y ∧ k.depth ≤ 8 ∧ r = valV kvs k
/-- the dict at a holds y: v, all else stands -/
def DP (P : Program) (w : World) (H : Hp) (a : Addr) (y v : V) (R : Hp → Prop) : Prop :=
  (∃ kvs k, LD P w H a kvs ∧ y = sg k ∧ kvs.length < sizeLine ∧ ∀ o, IsLD P w o (putK kvs k v) → R (upd H a (raw a o))) ∨
  ∃ kvs k b, ND P w H a kvs ∧ y = .ref b ∧ At H k y ∧ k.depth ≤ 8 ∧ kvs.length < sizeLine ∧ ∀ o, IsND P w H o (putK kvs k v) → R (upd H a (raw a o))

section
variable {X : Cx} {pins : List (Addr × Obj)} {σ : L2.St} {H : Hp} {s : Shared} {a : Addr} {y v d : V} {u r : Value} {o : Option V} {A : Around} {E : Value → Shared → Prop}
theorem room8 {A : Around} (hu : A.units + 64 < cLine) : (nestedKind X.prog X.w).room A.in1 := by
  show A.units + 1 + 8 < cLine
  omega
theorem dg_getItem {Q : Value → Shared → Prop} (hu : A.units + 64 < cLine) (I : Inv X pins σ H s) (g : DG X.prog X.w H a y (some v)) (ry : RelV y u) (h : ∀ w' s', Inv X pins σ H s' → RelV v w' → Q w' s') :
    wpAny (model X.prog X.w) A (getItem (.ref a) u) Q E s := by
  rcases g with ⟨kvs, k, e, ey, l⟩ | ⟨kvs, k, b, e, ey, ak, hd, l⟩
  · subst ey
    obtain ⟨z, hs, vs, rel, dd⟩ := e.dict I.hok
    obtain ⟨w', hw, rw'⟩ := RelO.some_of (v := v) (o := valueAt vs (lf k)) (by rw [l, ← valV_lfs]; exact rel.val (lf k))
    exact wpAny_getItem_of (sg_is ry) dd.mapOf hw (h w' _ (I.tok _) rw')
  · subst ey
    cases (show u = Value.ref b from ry)
    obtain ⟨z, hs, xs, rel, dd⟩ := e.dict I.hok
    obtain ⟨w', hw, rw'⟩ := RelO.some_of (v := v) (o := (atKey xs k).map (·.2)) (by rw [l]; exact rel.val k)
    obtain ⟨p, hp, hp2⟩ := Option.map_eq_some_iff.mp hw
    refine wpAny_getItem_heap (room8 hu) (key_is I.hok ak hd) dd hp ?_
    rw [hp2]
    exact h w' _ (I.tok _) rw'
theorem dg_get2 {Q : Value → Shared → Prop} (hu : A.units + 64 < cLine) (I : Inv X pins σ H s) (g : DG X.prog X.w H a y o) (ry : RelV y u) (rd : RelV d r) (h : ∀ w' s', Inv X pins σ H s' → RelV (o.getD d) w' → Q w' s') :
    wpAny (model X.prog X.w) A (call (.builtin "dict.get") [.ref a, u, r]) Q E s := by
  rcases g with ⟨kvs, k, e, ey, l⟩ | ⟨kvs, k, b, e, ey, ak, hd, l⟩
  · subst ey
    obtain ⟨z, hs, vs, rel, dd⟩ := e.dict I.hok
    refine call_meetsIn PySem.F.slot_dict_get dd.typeIs PySem.F.entry_dict_get (PySem.F.args_dict_get_3 _ _ _) (meets_dict_get_default (leafKind X.prog X.w) a (sg_is ry) hs r) ⟨_, dd.mapOf, h _ _ (I.tok _) ?_⟩
    rw [l, ← valV_lfs]
    exact (rel.val (lf k)).getD rd
  · subst ey
    cases (show u = Value.ref b from ry)
    obtain ⟨z, hs, xs, rel, dd⟩ := e.dict I.hok
    refine call_meetsIn PySem.F.slot_dict_get dd.typeIs PySem.F.entry_dict_get (PySem.F.args_dict_get_3 _ _ _) (meetsH_dict_get_default (nestedKind X.prog X.w) a b hs r) ⟨room8 hu, k, xs, key_is I.hok ak hd, dd, h _ _ (I.tok _) ?_⟩
    rw [l]
    exact (rel.val k).getD rd
theorem isLD_of {P : Program} {w : World} {h' : Heap} {kvs : List (Option Str × V)} {vs : List (Leaf × Value)} (z : kvs.length ≤ sizeLine) (rel : KV (lfs kvs) vs) (dd : h'.DictOf (leafKind P w) a vs) : ∃ o, h'.get? a = some o ∧ IsLD P w o kvs := by
  obtain ⟨o, es, ep, h1, h2, h3, h4, h5, h6⟩ := dd
  exact ⟨o, h1, z, es, ep, vs, h2, h3, h4, h5, h6, rel⟩
theorem isND_of {P : Program} {w : World} {h' : Heap} {kvs : List (D × V)} {xs : List (D × Addr × Value)} (z : kvs.length ≤ sizeLine) (rel : Ent H kvs xs) (dd : h'.DictOfH (nestedKind P w) a xs) : ∃ o, h'.get? a = some o ∧ IsND P w H o kvs := by
  obtain ⟨o, es, ep, h1, h2, h3, h4, _, h6⟩ := dd
  exact ⟨o, h1, z, es, ep, xs, h2, h3, h4, h6, rel⟩
theorem dp_setItem {R : Hp → Prop} {Q : Unit → Shared → Prop} (hu : A.units + 64 < cLine) (I : Inv X pins σ H s) (g : DP X.prog X.w H a y v R) (ry : RelV y u) (rv : RelV v r) (h : ∀ H' s', Inv X pins σ H' s' → R H' → Q () s') :
    wpAny (model X.prog X.w) A (setItem (.ref a) u r) Q E s := by
  rcases g with ⟨kvs, k, e, ey, l, kR⟩ | ⟨kvs, k, b, e, ey, ak, hd, l, kR⟩
  · subst ey
    obtain ⟨_, o0, e0, _⟩ := id e
    obtain ⟨z, hs, vs, rel, dd⟩ := e.dict I.hok
    have hz : vs.length ≤ sizeLine := by
      rw [← rel.length]
      unfold lfs
      rw [List.length_map]
      exact z
    have hl : (putK kvs k v).length ≤ sizeLine := by have := length_putK kvs k v; omega
    refine wpAny_setItem_pairs (hsz := hz) (sg_is ry) dd fun h' dd' hsb => ?_
    obtain ⟨o, ho, i⟩ := isLD_of hl (by rw [← putK_lfs]; exact rel.put (lf k) rv) dd'
    exact h _ _ (Inv.rawset I e0 hsb ho) (kR o i)
  · subst ey
    cases (show u = Value.ref b from ry)
    obtain ⟨_, o0, e0, _⟩ := id e
    obtain ⟨z, hs, xs, rel, dd⟩ := e.dict I.hok
    have hz : xs.length ≤ sizeLine := by rw [← rel.length]; exact z
    have hl : (putK kvs k v).length ≤ sizeLine := by have := length_putK kvs k v; omega
    refine wpAny_setItem_heap (hsz := hz) (room8 hu) (key_is I.hok ak hd) dd fun h' dd' hsb => ?_
    obtain ⟨o, ho, i⟩ := isND_of (H := H) hl (rel.put ak hd rv) dd'
    exact h _ _ (Inv.rawset I e0 hsb ho) (kR o i)
theorem dg_typeIs (I : Inv X pins σ H s) (g : DG X.prog X.w H a y o) : s.TypeIs (.ref a) "dict" := by
  rcases g with ⟨kvs, k, e, _, _⟩ | ⟨kvs, k, b, e, _⟩
  · obtain ⟨_, _, vs, _, dd⟩ := e.dict I.hok
    exact dd.typeIs
  · obtain ⟨_, _, xs, _, dd⟩ := e.dict I.hok
    exact dd.typeIs
end

/-- a is a dict tracked by its object -/
def IsDict (H : Hp) (a : Addr) : Prop := ∃ o es ep, H a = some (raw a o) ∧ o.ExactDict ∧ o.data = .dict es ep ∧ (a == sysModules) = false
theorem LD.isDict {P : Program} {w : World} {H : Hp} {a : Addr} {kvs : List (Option Str × V)} (e : LD P w H a kvs) : IsDict H a := by
  obtain ⟨y, o, ho, z, es, ep, vs, h1, h2, _⟩ := e
  exact ⟨o, es, ep, ho, h1, h2, y⟩
theorem ND.isDict {P : Program} {w : World} {H : Hp} {a : Addr} {kvs : List (D × V)} (e : ND P w H a kvs) : IsDict H a := by
  obtain ⟨y, o, ho, z, es, ep, vs, h1, h2, _⟩ := e
  exact ⟨o, es, ep, ho, h1, h2, y⟩
theorem isDict_at {X : Cx} {pins : List (Addr × Obj)} {σ : L2.St} {H : Hp} {s : Shared} {a : Addr} (I : Inv X pins σ H s) (d : IsDict H a) :
    s.TypeIs (.ref a) "dict" ∧ (∀ b, Value.ref a = .ref b → ∃ ob, s.heap.get? b = some ob ∧ ob.dict = none) ∧ (a == sysModules) = false ∧ ∃ es ep, s.heap.DictRaw a es ep := by
  obtain ⟨o, es, ep, ho, hc, hd, y⟩ := d
  have hg := raw_get I.hok ho
  refine ⟨⟨o, hg, hc.1⟩, fun b q => ?_, y, es, ep, o, hg, hc, hd⟩
  cases q
  exact ⟨o, hg, hc.2.1⟩

/-! ### readings and rules -/
def tNGet (P : Program) (w : World) (td ty : TE) : TE := fun σ H Q => td σ H fun x H1 => ty σ H1 fun y H2 => ∃ a v, x = .ref a ∧ DG P w H2 a y (some v) ∧ Q v H2
def sNPut (P : Program) (w : World) (td ty tv : TE) : TS := fun D σ H => tv σ H fun v H1 => td σ H1 fun x H2 => ty σ H2 fun y H3 => ∃ a, x = .ref a ∧ DP P w H3 a y v (D.nx σ)
def tNGet2 (P : Program) (w : World) (td ty tx : TE) : TE := fun σ H Q => td σ H fun x H1 => ∃ a, x = .ref a ∧ IsDict H1 a ∧ ty σ H1 fun y H2 => tx σ H2 fun z H3 => ∃ o, DG P w H3 a y o ∧ Q (o.getD z) H3
/-- {} -/
def newD : Obj := { cls := .type "dict", data := .dict #[] }
def tNNew : TE := fun _ H Q => ∀ p, H p = none → (p == sysModules) = false → Q (.ref p) (upd H p (raw p newD))
theorem newD_LD (P : Program) (w : World) : IsLD P w newD [] := by
  obtain ⟨o, es, ep, h1, h2, h3, h4, h5, h6⟩ := Heap.DictOf.new (knd := leafKind P w) (default : Heap)
  rw [Heap.get?_push_size _ rfl] at h1
  cases h1
  exact ⟨Nat.zero_le _, es, ep, [], h2, h3, h4, h5, h6, .nil⟩
theorem newD_ND (P : Program) (w : World) (H : Hp) : IsND P w H newD [] := ⟨Nat.zero_le _, #[], 0, [], ⟨rfl, rfl, rfl⟩, rfl, rfl, List.nodup_nil, .nil⟩
section
variable {X : Cx} {o i e f value : Expr} {pos pos' tpos apos cpos : Pos} {td ty tv tx : TE}
theorem pe_nget (hu : X.A.units + 64 < cLine) (ho : PE X o td) (hi : PE X i ty) (hs : NoSl i) : PE X (.Subscript o i pos) (tNGet X.prog X.w td ty) := by
  refine ⟨fun pins s σ H Q I h => ?_⟩
  refine subD_of PySem.F.slot_dict_getitem.lookup hs (thn (ho.run pins s σ H _ I h) fun u s1 ⟨x, H1, I1, rx, q1⟩ => thn (hi.run pins s1 σ H1 _ I1 q1) fun iv s2 ⟨y, H2, I2, ry, a, v, ex, g, q2⟩ => ?_)
  subst ex
  obtain rfl : u = Value.ref a := rx
  exact ⟨dg_typeIs I2 g, dg_getItem hu I2 g ry fun w' s3 I3 rw' => ⟨v, H2, I3, rw', q2⟩⟩
theorem ps_nput (hu : X.A.units + 64 < cLine) (ho : PE X o td) (hi : PE X i ty) (hv : PE X value tv) (hs : swapsWith value (some (.Subscript o i pos')) pos.line X.env = pure false) :
    PS X (.Assign [.Subscript o i pos'] value pos) (sNPut X.prog X.w td ty tv) := by
  refine ⟨fun pins s σ H D I h => ?_⟩
  refine wpAny_Assign_Subscript (thn (hv.run pins s σ H _ I h) fun r s1 ⟨v, H1, I1, rv, q1⟩ => thn (ho.run pins s1 σ H1 _ I1 q1) fun u s2 ⟨x, H2, I2, rx, q2⟩ => thn (hi.run pins s2 σ H2 _ I2 q2) fun iv s3 ⟨y, H3, I3, ry, a, ex, g⟩ => ?_) hs
  subst ex
  obtain rfl : u = Value.ref a := rx
  exact dp_setItem hu I3 g ry rv fun H4 s4 I4 q => ⟨σ, H4, I4, q⟩
theorem pe_nget2 (hu : X.A.units + 64 < cLine) (ho : PE X o td) (he : PE X e ty) (hf : PE X f tx) (m : M2 X o "get" apos e f cpos) : PE X (.Call (.Attribute o "get" apos) [e, f] [] cpos) (tNGet2 X.prog X.w td ty tx) := by
  refine ⟨fun pins s σ H Q I h => ?_⟩
  refine wpAny_Call_method m.base m.few m.line PySem.F.plainAttrs_dict PySem.F.slot_dict_get PySem.F.type_dict_get (thn (ho.run pins s σ H _ I h) fun u s1 ⟨x, H1, I1, rx, a, ex, d, q1⟩ => ?_)
  subst ex
  obtain rfl : u = Value.ref a := rx
  obtain ⟨t1, t2, _⟩ := isDict_at I1 d
  refine ⟨t1, t2, ?_⟩
  rw [m.trees]
  refine Calls.callWith_builtin rfl (Calls.evalArgs_plain (Calls.spliced_cons (thn (he.run pins s1 σ H1 _ I1 q1) fun iv s2 ⟨y, H2, I2, ry, q2⟩ =>
    Calls.spliced_cons (thn (hf.run pins s2 σ H2 _ I2 q2) fun fv s3 ⟨z, H3, I3, rz, ov, g, q3⟩ => Calls.spliced_nil ?_))))
  exact dg_get2 hu I3 g ry rz fun w' s4 I4 rw' => ⟨_, H3, I4, rw', q3⟩
theorem pe_nnew : PE X (.Dict [] [] pos) tNNew := ⟨fun pins s σ H Q I h =>
  wpAny_Dict_empty ⟨.ref s.heap.objs.size, _, Inv.rawnew (o := newD) (t' := s.toks) I (fun _ _ q => Heap.get?_push_of_some _ q) (Nat.le_refl _) (Heap.get?_push_size _ rfl), rfl, h _ (I.hok.fresh (Nat.le_refl _)) (nosys I (Nat.le_refl _))⟩⟩
end

/-! ### a walk over the keys -/
/-- the keys, as values -/
def KeysAre (o : Obj) (ks : List V) : Prop := ∃ es ep, o.ExactDict ∧ o.data = .dict es ep ∧ Vals ks (es.toList.map (·.key))
def Itn (d : Addr) (o : Obj) (ks : List V) : It := ⟨fun i H => H d = some (raw d o) ∧ i < ks.length, fun i H x H' => H' = H ∧ ks[i]? = some x, fun i H => H d = some (raw d o) ∧ ks.length ≤ i⟩
theorem walk_n {d : Addr} {o : Obj} {ks : List V} : Walk (Itn d o ks) ks.length (fun H => H d = some (raw d o)) (YAt ks) :=
  ⟨fun _ _ hi q => ⟨q, hi⟩, fun _ q => ⟨q, Nat.le_refl _⟩, fun _ _ _ _ _ _ y => y⟩
theorem turn_n {P : Program} {w : World} {K : PySem.W.Frag} {tg : Expr} {d : Addr} {o : Obj} {ks : List V} {es : Array DictEntry} {ep : Nat} (it : Addr) (hx : o.ExactDict) (hd : o.data = .dict es ep) (hv : Vals ks (es.toList.map (·.key))) :
    Turn P w K tg (Itn d o ks) [it] it (fun i h => h.IsKeyIter it d i es.size ep) where
  mem := by simp
  obj := fun i h st b hb => by
    have e : b = it := by simpa using hb
    subst e
    obtain ⟨ob, e, _, dd⟩ := st
    exact ⟨ob, e, fun v z => by rw [dd] at z; cases z⟩
  keep := fun i h h' st k => st.at fun ob e => k it (by simp) ob e
  item := by
    intro X hP hw hK hc i pins s σ H E I hf st hg
    subst hP hw hK
    obtain ⟨hH, hi⟩ := hg
    have hg := raw_get I.hok hH
    obtain ⟨f0, f1, f2, f3, f4, f5⟩ := hf it (by simp)
    have hsz : ks.length = es.size := by
      rw [hv.length, List.length_map, Array.length_toList]
    have hie : i < es.size := by omega
    obtain ⟨u, hu, ru⟩ := hv.get (List.getElem?_eq_getElem hi)
    have eu : u = es[i].key := by
      rw [List.getElem?_map, Array.getElem?_toList, Array.getElem?_eq_getElem hie] at hu
      exact (Option.some.inj hu).symm
    refine wpAny_pyNext_keys_item_raw st ⟨o, hg, hx, hd⟩ hie fun h' st' sb => ?_
    have I1 : Inv X pins σ H { s with heap := h' } := I.turned (t' := s.toks) (fun b ob hb e => (sb.2 b hb).trans e) f0 f1 f3 f4 f5
    obtain ⟨oi, ei, ci, di⟩ := id st'
    exact ⟨es[i].key, rfl, go_of (s := { s with heap := h' }) ei ci di (by decide) ⟨ks[i], H, I1, by rw [← eu]; exact ru, ⟨rfl, List.getElem?_eq_getElem hi⟩, st', fun b hb => (hf b hb).1⟩⟩
  done := by
    intro X hP hw hK hc i pins s σ H E I hf st hg
    subst hP hw hK
    obtain ⟨hH, hi⟩ := hg
    have hg := raw_get I.hok hH
    obtain ⟨f0, f1, f2, f3, f4, f5⟩ := hf it (by simp)
    have hsz : ks.length = es.size := by
      rw [hv.length, List.length_map, Array.length_toList]
    exact wpAny_pyNext_keys_end_raw (I.ok.hd hc) st ⟨o, hg, hx, hd⟩ (by omega) fun h' eb => ⟨rfl, I.turned (t' := s.toks) (fun b ob hb e => eb b ob hb e) f0 f1 f3 f4 f5⟩
  self := fun A i s Q E st h => wpAny_pyIter_keyiter st h
def iNKeys (td : TE) : TI := fun σ H R => td σ H fun x H1 => ∃ d o ks, x = .ref d ∧ H1 d = some (raw d o) ∧ KeysAre o ks ∧ (d == sysModules) = false ∧ R (Itn d o ks) H1
theorem pi_nkeys {X : Cx} {tg l : Expr} {tl : TE} (hl : PE X l tl) : PI X tg l (iNKeys tl) := by
  refine ⟨fun pins s σ H R I h => ?_⟩
  refine thn (hl.run pins s σ H _ I h) fun v s1 ⟨x, H1, I1, r1, q1⟩ => ?_
  obtain ⟨d, o, ks, e, hH, ⟨es, ep, hx, hd, hv⟩, hs, q⟩ := q1
  subst e
  cases r1
  refine wpAny_pyIter_dict_raw hs ⟨o, raw_get I1.hok hH, hx, hd⟩ ?_
  exact pi_one (tk := s1.toks) I1 _ (turn_n _ hx hd hv) ⟨_, Heap.get?_push_size _ rfl, rfl, rfl⟩ q
theorem keys_LD {P : Program} {w : World} {o : Obj} {kvs : List (Option Str × V)} (h : IsLD P w o kvs) : KeysAre o (kvs.map fun p => sg p.1) := by
  obtain ⟨z, es, ep, vs, h1, h2, h3, h4, h5, r⟩ := h
  refine ⟨es, ep, h1, h2, ?_⟩
  have go : ∀ {l : List DictEntry} {vs : List (Leaf × Value)} {kvs : List (Option Str × V)}, Pairs (leafKind P w) l vs → KV (lfs kvs) vs → Vals (kvs.map fun p => sg p.1) (l.map (·.key)) := by
    intro l
    induction l with
    | nil =>
      intro vs kvs p r
      cases p
      cases kvs with
      | nil => exact .nil
      | cons a t => cases r
    | cons e l ih =>
      intro vs kvs p r
      cases p with
      | cons p1 p0 p2 =>
        cases kvs with
        | nil => cases r
        | cons a t =>
          cases r with
          | cons r1 r2 =>
            refine .cons ?_ (ih p2 r2)
            refine is_sg (P := P) (w := w) ?_
            have q := r1.1
            rw [show lf a.1 = _ from q]
            exact p1
  exact go h4 r
end Lt

/-! Lt, part C: further operations: list.count, text * number, comparisons of data, walks. -/
namespace Lt
open PySem PySem.Spec PyProof.Rows L2

section
variable {X : Cx}
/-- list.count of a flat value -/
def rCntV (K : PySem.W.Frag) : V → List V → Hp → VK → Prop := fun x xs H Q => ∃ (p : Addr) (ys : List V) (y : V), x = .ref p ∧ xs = [y] ∧ SqL K H p ys ∧ flatV y = true ∧ ys.all flatV = true ∧ Q (.int ((ys.countP fun z => eqV z y : Nat) : Int)) H
theorem count_eqU {x : V} : ∀ {xs : List V} {us : List Value}, Vals xs us → xs.all flatV = true → us.countP (eqU x) = xs.countP fun y => eqV y x
  | _, _, .nil, _ => rfl
  | y :: xs, u :: us, .cons r t, f => by
    rw [List.all_cons, Bool.and_eq_true] at f
    rw [List.countP_cons, List.countP_cons, eqU_of r f.1, count_eqU t f.2]
theorem mt_countV : MtR X "list.count" (rCntV X.K) := by
  intro pins s σ H x xs v us Q I rx rxs h
  obtain ⟨p, ys, y, rfl, rfl, hs, fy, fs, q⟩ := h
  cases rx
  obtain ⟨u, rfl, ru⟩ := rxs.one
  obtain ⟨its, rv, ⟨⟨cls, dd, data, sl⟩, n, ho, hc, hdn, hd⟩, hlen⟩ := I.list hs
  simp only at hc hd
  subst hc hd
  refine call_meets PySem.F.slot_list_count ⟨_, ho, rfl⟩ PySem.F.entry_list_count (PySem.F.args_list_count_2 _ _)
    (SeqAt.list_countAt p its.toArray n dd sl u (eqU y)) ⟨ho, fun z hz => mem_eqAt ru fy rv fs z (by simpa using hz), ?_⟩
  refine ⟨.int _, H, I.tok _, ⟨s.toks, ?_⟩, q⟩
  show Value.int ((its.toArray.toList.countP (eqU y) : Nat) : Int) s.toks = _
  rw [show its.toArray.toList = its from rfl, count_eqU rv fs]

/-- text * number -/
def repS (z : Str) (n : Int) : Str := ⟨((List.replicate n.toNat z.cps.toList).flatten).toArray⟩
theorem repS_len (z : Str) (n : Int) : (repS z n).length = n.toNat * z.length := by
  show ((List.replicate n.toNat z.cps.toList).flatten).toArray.size = _
  simp
  rfl
theorem rep_fold (z : Str) (n : Nat) : (List.replicate n z.cps).foldl (· ++ ·) #[] = ((List.replicate n z.cps.toList).flatten).toArray := by
  have go : ∀ (n : Nat) (acc : Array Nat), (List.replicate n z.cps).foldl (· ++ ·) acc = acc ++ ((List.replicate n z.cps.toList).flatten).toArray := by
    intro n
    induction n with
    | zero => intro acc; simp
    | succ n ih =>
      intro acc
      rw [List.replicate_succ, List.foldl_cons, ih, List.replicate_succ, List.flatten_cons]
      apply Array.ext'
      simp
  rw [go]
  simp
def rMulS : R2 := fun x y H Q => ∃ z n, x = .str z ∧ y = .int n ∧ 0 ≤ n ∧ n ≤ 1000 ∧ z.length ≤ 1000 ∧ Q (.str (repS z n)) H
theorem op_mulS : OpR X (binaryOp .Mult) rMulS := by
  intro pins s σ H x y v u Q I rx ry h
  obtain ⟨z, n, rfl, rfl, h0, h1, hz, q⟩ := h
  obtain ⟨t, rfl⟩ := rx
  obtain ⟨t', rfl⟩ := ry
  have hb : z.length * n.toNat ≤ 1000 * 1000 := Nat.mul_le_mul hz (by omega)
  refine PySem.P.mul_str ?_ (fun hn _ => ?_) (fun hn _ => ?_) ?_
  · have a1 : ¬ n < -(2 ^ 63 : Int) := by omega
    have a2 : ¬ n ≥ (2 ^ 63 : Int) := by omega
    rw [decide_eq_false a1, decide_eq_false a2]
    rfl
  · have h3 : (0 : Int) < n := by omega
    have h2 : (1000 : Int) ≤ (2 ^ 63 - 1) / n := by
      rw [Int.le_ediv_iff_mul_le h3]
      omega
    omega
  · have e : z.length * n.toNat ≤ sizeLine := Nat.le_trans hb (by rw [sizeLine_eq]; decide)
    unfold Builtin.Str.tooLong
    exact decide_eq_false (by omega)
  · by_cases hn : n < 1
    · rw [if_pos hn]
      have e : n = 0 := by omega
      subst e
      exact ⟨by decide, ⟨.str _, H, I.tok _, ⟨_, rfl⟩, q⟩⟩
    · rw [if_neg hn]
      by_cases hc : (n == 1 || z.length == 0) = true
      · rw [if_pos hc]
        have e : repS z n = z := by
          rw [Bool.or_eq_true, beq_iff_eq, beq_iff_eq] at hc
          unfold repS
          rcases hc with e | e
          · subst e
            show (⟨((List.replicate 1 z.cps.toList).flatten).toArray⟩ : Str) = z
            simp
          · have e2 : z.cps.toList = [] := by
              have : z.cps.size = 0 := e
              simpa using this
            rw [e2]
            have e3 : z.cps = #[] := by
              have := congrArg List.toArray e2
              simpa using this
            cases z
            simp at e3
            subst e3
            simp
        rw [e] at q
        exact ⟨.str _, H, I, ⟨_, rfl⟩, q⟩
      · rw [if_neg hc]
        refine ⟨?_, ⟨.str _, H, I.tok _, ⟨s.toks, ?_⟩, q⟩⟩
        · rw [rep_fold]
          show (repS z n).length ≤ sizeLine
          rw [repS_len, Nat.mul_comm, sizeLine_eq]
          omega
        · rw [rep_fold]
          all_goals rfl
end

/-! ### data compared -/
mutual
def py : D → PyData
  | .none => .none
  | .num i => .int i
  | .text x => .str x
  | .tup ks => .tuple (pys ks)
def pys : List D → List PyData
  | [] => []
  | k :: ks => py k :: pys ks
end
mutual
theorem eqv_py : ∀ a b : D, PyData.eqv (py a) (py b) = NestedKey.beq a b
  | .none, .none => rfl
  | .none, .num _ => rfl
  | .none, .text _ => rfl
  | .none, .tup _ => rfl
  | .num _, .none => rfl
  | .num a, .num b => by simp [py, PyData.eqv, NestedKey.beq, Bool.beq_eq_decide_eq]
  | .num _, .text _ => rfl
  | .num _, .tup _ => rfl
  | .text _, .none => rfl
  | .text _, .num _ => rfl
  | .text a, .text b => by simp [py, PyData.eqv, NestedKey.beq, Bool.beq_eq_decide_eq]
  | .text _, .tup _ => rfl
  | .tup _, .none => rfl
  | .tup _, .num _ => rfl
  | .tup _, .text _ => rfl
  | .tup a, .tup b => by simp only [py, PyData.eqv, NestedKey.beq]; exact eqv_pys a b
theorem eqv_pys : ∀ a b : List D, PyData.eqvAll (pys a) (pys b) = NestedKey.beqAll a b
  | [], [] => rfl
  | [], _ :: _ => rfl
  | _ :: _, [] => rfl
  | a :: as, b :: bs => by simp only [pys, PyData.eqvAll, NestedKey.beqAll]; rw [eqv_py a b, eqv_pys as bs]
end
theorem beqAll_decide (a b : List D) : NestedKey.beqAll a b = decide (a = b) := by
  cases h : NestedKey.beqAll a b with
  | true => exact (decide_eq_true (NestedKey.eq_of_beqAll a b h)).symm
  | false => exact (decide_eq_false fun e => by rw [e, NestedKey.beqAll_self] at h; cases h).symm
theorem eqv_list (a b : List D) : PyData.eqv (.list (pys a)) (.list (pys b)) = decide (a = b) := by
  rw [← beqAll_decide, ← eqv_pys, PyData.eqv]
theorem eqv_dec (a b : D) : PyData.eqv (py a) (py b) = decide (a = b) := by rw [eqv_py, NestedKey.decide_eq]
mutual
theorem At.dp {K : PySem.W.Frag} {H : Hp} : ∀ (d : D) (v : V), At H d v → Dp K H v (py d)
  | .none, _, h => by rw [h.of_non]; exact .non
  | .num i, _, h => by rw [h.of_int]; exact .int i
  | .text x, _, h => by rw [h.of_str]; exact .str x
  | .tup ks, _, h => by
    obtain ⟨b, xs, e, hb, hs⟩ := h.of_tup
    rw [e]
    exact .tup (SqT.of hb) (Ats.dp ks xs hs)
theorem Ats.dp {K : PySem.W.Frag} {H : Hp} : ∀ (ds : List D) (vs : List V), Ats H ds vs → DpAll K H vs (pys ds)
  | [], _, h => by rw [h.of_nil]; exact .nil
  | d :: ds, _, h => by
    obtain ⟨v, r, e, h1, h2⟩ := h.of_cons
    rw [e]
    exact .cons (At.dp d v h1) (Ats.dp ds r h2)
end
/-- it can be laid: texts of true signs -/
def okD (d : D) : Bool := (py d).canLay0
def okDs (ds : List D) : Bool := PyData.canLayAll0 (pys ds)
theorem okDs_cons {d : D} {ds : List D} : okDs (d :: ds) = (okD d && okDs ds) := rfl
theorem okDs_of : ∀ {ds : List D}, (∀ d ∈ ds, okD d = true) → okDs ds = true
  | [], _ => rfl
  | d :: ds, h => by
    rw [okDs_cons, h d (List.mem_cons_self), okDs_of fun x hx => h x (List.mem_cons_of_mem _ hx)]
    rfl
theorem okDs_mem : ∀ {ds : List D}, okDs ds = true → ∀ d ∈ ds, okD d = true
  | [], _, d, hd => by cases hd
  | e :: ds, h, d, hd => by
    rw [okDs_cons, Bool.and_eq_true] at h
    rcases List.mem_cons.mp hd with q | q
    · rw [q]; exact h.1
    · exact okDs_mem h.2 d q
theorem okD_tup {ks : List D} : okD (.tup ks) = okDs ks := rfl
theorem okD_num {i : Int} : okD (.num i) = true := rfl
theorem okDs_ints : ∀ ns : List Int, okDs (ns.map .num) = true := fun ns => okDs_of fun d hd => by
  obtain ⟨n, _, rfl⟩ := List.mem_map.mp hd
  rfl
/-- how deep -/
def dpD (d : D) : Nat := (py d).depth
def dpDs (ds : List D) : Nat := PyData.depthAll (pys ds)
theorem dpDs_le {n : Nat} : ∀ {ds : List D}, (∀ d ∈ ds, dpD d ≤ n) → dpDs ds ≤ n
  | [], _ => Nat.zero_le _
  | d :: ds, h => by
    show max (dpD d) (dpDs ds) ≤ n
    exact Nat.max_le.mpr ⟨h d (List.mem_cons_self), dpDs_le fun x hx => h x (List.mem_cons_of_mem _ hx)⟩
theorem dpD_tup {ks : List D} : dpD (.tup ks) = dpDs ks + 1 := by
  show (PyData.tuple (pys ks)).depth = _
  rw [PyData.depth]
  rfl
theorem dpD_leaf : dpD .none = 0 ∧ (∀ i, dpD (.num i) = 0) ∧ ∀ x, dpD (.text x) = 0 := by
  refine ⟨?_, fun i => ?_, fun x => ?_⟩ <;> (show PyData.depth _ = 0; simp only [py, PyData.depth])
theorem dpDs_ints (ns : List Int) : dpDs (ns.map .num) = 0 := Nat.le_zero.mp (dpDs_le fun d hd => by
  obtain ⟨n, _, rfl⟩ := List.mem_map.mp hd
  exact Nat.le_of_eq (dpD_leaf.2.1 n))
section
variable {X : Cx}
def rEqT : R2 := fun x y H Q => ∃ d e, At H d x ∧ At H e y ∧ okD d = true ∧ okD e = true ∧ dpD d ≤ 64 ∧ dpD e ≤ 64 ∧ Q (.bl (decide (d = e))) H
def rNeT : R2 := fun x y H Q => ∃ d e, At H d x ∧ At H e y ∧ okD d = true ∧ okD e = true ∧ dpD d ≤ 64 ∧ dpD e ≤ 64 ∧ Q (.bl (!decide (d = e))) H
theorem op_eqT (hu : X.A.units + 64 < cLine) : OpR X (compareOp .Eq) rEqT := by
  intro pins s σ H x y v u Q I rx ry h
  obtain ⟨d, e, hd, he, kd, ke, ld, le, q⟩ := h
  refine op_eqD hu pins s σ H x y v u Q I rx ry ⟨py d, py e, At.dp d x hd, At.dp e y he, ?_, ?_, ?_⟩
  · exact (Bool.and_eq_true _ _).mpr ⟨kd, decide_eq_true ld⟩
  · exact (Bool.and_eq_true _ _).mpr ⟨ke, decide_eq_true le⟩
  · rw [eqv_dec]
    exact q
theorem op_neT (hu : X.A.units + 64 < cLine) : OpR X (compareOp .NotEq) rNeT := by
  intro pins s σ H x y v u Q I rx ry h
  obtain ⟨d, e, hd, he, kd, ke, ld, le, q⟩ := h
  refine op_neD hu pins s σ H x y v u Q I rx ry ⟨py d, py e, At.dp d x hd, At.dp e y he, ?_, ?_, ?_⟩
  · exact (Bool.and_eq_true _ _).mpr ⟨kd, decide_eq_true ld⟩
  · exact (Bool.and_eq_true _ _).mpr ⟨ke, decide_eq_true le⟩
  · rw [eqv_dec]
    exact q
/-- lists of data -/
def rEqL (K : PySem.W.Frag) : R2 := fun x y H Q => ∃ p q xs ys ds es, x = .ref p ∧ y = .ref q ∧ SqL K H p xs ∧ SqL K H q ys ∧ Ats H ds xs ∧ Ats H es ys ∧ okDs ds = true ∧ okDs es = true ∧ dpDs ds ≤ 60 ∧ dpDs es ≤ 60 ∧ Q (.bl (decide (ds = es))) H
def rNeL (K : PySem.W.Frag) : R2 := fun x y H Q => ∃ p q xs ys ds es, x = .ref p ∧ y = .ref q ∧ SqL K H p xs ∧ SqL K H q ys ∧ Ats H ds xs ∧ Ats H es ys ∧ okDs ds = true ∧ okDs es = true ∧ dpDs ds ≤ 60 ∧ dpDs es ≤ 60 ∧ Q (.bl (!decide (ds = es))) H
theorem shaped_list {ds : List D} (k : okDs ds = true) (l : dpDs ds ≤ 60) : SeqAt.shaped (.list (pys ds)) = true := by
  refine (Bool.and_eq_true _ _).mpr ⟨?_, decide_eq_true ?_⟩
  · rw [PyData.canLay0]
    exact k
  · rw [PyData.depth]
    have : PyData.depthAll (pys ds) ≤ 60 := l
    omega
theorem op_eqL (hu : X.A.units + 64 < cLine) : OpR X (compareOp .Eq) (rEqL X.K) := by
  intro pins s σ H x y v u Q I rx ry h
  obtain ⟨p, q', xs, ys, ds, es, rfl, rfl, hp, hq, hd, he, kd, ke, ld, le, q⟩ := h
  refine op_eqD hu pins s σ H _ _ v u Q I rx ry ⟨.list (pys ds), .list (pys es), .lst hp (Ats.dp ds xs hd), .lst hq (Ats.dp es ys he), shaped_list kd ld, shaped_list ke le, ?_⟩
  rw [eqv_list]
  exact q
theorem op_neL (hu : X.A.units + 64 < cLine) : OpR X (compareOp .NotEq) (rNeL X.K) := by
  intro pins s σ H x y v u Q I rx ry h
  obtain ⟨p, q', xs, ys, ds, es, rfl, rfl, hp, hq, hd, he, kd, ke, ld, le, q⟩ := h
  refine op_neD hu pins s σ H _ _ v u Q I rx ry ⟨.list (pys ds), .list (pys es), .lst hp (Ats.dp ds xs hd), .lst hq (Ats.dp es ys he), shaped_list kd ld, shaped_list ke le, ?_⟩
  rw [eqv_list]
  exact q
end
/-- signs as data -/
def sd : Option Str → D
  | none => .none
  | some x => .text x
theorem sd_at {H : Hp} (o : Option Str) : At H (sd o) (sg o) := by
  cases o
  · exact At.non
  · exact At.str
theorem sd_inj {a b : Option Str} (h : sd a = sd b) : a = b := by
  cases a <;> cases b <;> first | rfl | (injection h with h; rw [h]) | cases h
theorem sds_at {H : Hp} : ∀ ss : List (Option Str), Ats H (ss.map sd) (ss.map sg)
  | [] => Ats.nil
  | s :: ss => Ats.cons (sd_at s) (sds_at ss)
theorem sds_inj : ∀ {a b : List (Option Str)}, a.map sd = b.map sd → a = b
  | [], [], _ => rfl
  | [], _ :: _, h => by simp at h
  | _ :: _, [], h => by simp at h
  | x :: a, y :: b, h => by
    rw [List.map_cons, List.map_cons] at h
    injection h with h1 h2
    rw [sd_inj h1, sds_inj h2]
theorem sds_dec (a b : List (Option Str)) : decide (a.map sd = b.map sd) = decide (a = b) := decide_eq_decide.mpr ⟨sds_inj, fun e => by rw [e]⟩
theorem dp_sd : ∀ o : Option Str, dpD (sd o) = 0
  | none => dpD_leaf.1
  | some x => dpD_leaf.2.2 x
theorem sds_dp (ss : List (Option Str)) : dpDs (ss.map sd) ≤ 60 := dpDs_le fun d hd => by
  obtain ⟨o, _, rfl⟩ := List.mem_map.mp hd
  rw [dp_sd]
  decide
/-- a sign that one may be told: small letters -/
def IsSign (s : Str) : Prop := 1 ≤ s.length ∧ s.length ≤ 8 ∧ ∀ c ∈ s.cps.toList, 97 ≤ c ∧ c ≤ 122
def IsSg : Option Str → Prop
  | none => True
  | some s => IsSign s
theorem IsSign.ok {s : Str} (h : IsSign s) : okD (.text s) = true := by
  show (PyData.str s).canLay0 = true
  rw [PyData.canLay0]
  show s.cps.all (· < 0x110000) = true
  rw [← Array.all_toList, List.all_eq_true]
  intro c hc
  have := h.2.2 c hc
  exact decide_eq_true (by omega)
theorem IsSg.ok {o : Option Str} (h : IsSg o) : okD (sd o) = true := by
  cases o
  · rfl
  · exact IsSign.ok h
theorem IsSg.oks {ss : List (Option Str)} (h : ∀ s ∈ ss, IsSg s) : okDs (ss.map sd) = true := okDs_of fun d hd => by
  obtain ⟨o, ho, rfl⟩ := List.mem_map.mp hd
  exact (h o ho).ok
theorem sg_flat (o : Option Str) : flatV (sg o) = true := by cases o <;> rfl
theorem sgs_flat (ss : List (Option Str)) : (ss.map sg).all flatV = true := by
  rw [List.all_map, List.all_eq_true]
  intro o _
  exact sg_flat o
theorem eqV_sg (a b : Option Str) : eqV (sg a) (sg b) = (a == b) := by
  cases a <;> cases b <;> first | rfl | (simp [sg, eqV])
theorem countP_sg (o : Option Str) : ∀ ss : List (Option Str), (ss.map sg).countP (fun z => eqV z (sg o)) = ss.count o
  | [] => rfl
  | s :: ss => by rw [List.map_cons, List.countP_cons, List.count_cons, countP_sg o ss, eqV_sg]
theorem scal_sg (a b : Option Str) : scal (sg a) (sg b) = true := by cases a <;> cases b <;> rfl
theorem dec_sg (a b : Option Str) : decide (sg a = sg b) = decide (a = b) := decide_eq_decide.mpr ⟨sg_inj, fun e => by rw [e]⟩
theorem walk_listN {K : PySem.W.Frag} {a : Addr} {xs : List V} {n : Nat} (h : xs.length = n) : Walk (Itl K a) n (fun H => SqL K H a xs) (YAt xs) := by
  subst h
  exact walk_list
theorem walk_tupN {K : PySem.W.Frag} {a : Addr} {xs : List V} {n : Nat} (h : xs.length = n) : Walk (Itt K a) n (fun H => SqT K H a xs) (YAt xs) := by
  subst h
  exact walk_tup
theorem valV_mem {κ : Type} [DecidableEq κ] {kvs : List (κ × V)} {k : κ} {v : V} (h : valV kvs k = some v) : (k, v) ∈ kvs := by
  unfold valV at h
  obtain ⟨p, hp, e⟩ := Option.map_eq_some_iff.mp h
  have h1 := List.find?_some hp
  have h2 := List.mem_of_find?_eq_some hp
  simp only [decide_eq_true_eq] at h1
  rw [← h1, ← e]
  exact h2

/-! ### the rules with the written part told -/
section
variable {X : Cx} {K : PySem.W.Frag}
theorem ix_listK (e : X.K = K) : IxR X (rIxL K) := e ▸ ix_list
theorem ix_tupK (e : X.K = K) : IxR X (rIxT K) := e ▸ ix_tup
theorem in_seqK (e : X.K = K) : OpR X (compareOp .In) (rIn K false) := e ▸ op_in_seq
theorem notIn_seqK (e : X.K = K) : OpR X (compareOp .NotIn) (rIn K true) := e ▸ op_notIn_seq
def rLenQ (K : PySem.W.Frag) : List V → Hp → VK → Prop := fun xs H Q => ∃ p ys, xs = [.ref p] ∧ (SqL K H p ys ∨ SqT K H p ys) ∧ Q (.int ys.length) H
theorem len_seqK (e : X.K = K) : CallR X (.builtin "len") (rLenQ K) := e ▸ call_len_seq
theorem sl_listK (e : X.K = K) : SlR X (rSlL K) := e ▸ sl_list
theorem sl_tupK (e : X.K = K) : SlR X (rSlT K) := e ▸ sl_tup
theorem countVK (e : X.K = K) : MtR X "list.count" (rCntV K) := e ▸ mt_countV
theorem indexK (e : X.K = K) : MtR X "list.index" (rIndex K) := e ▸ mt_index
theorem isiK (e : X.K = K) : CallR X (.builtin "isinstance") (rIsi K) := e ▸ call_isi
def rListQ (K : PySem.W.Frag) : List V → Hp → VK → Prop := fun xs H Q => ∃ p ys, xs = [.ref p] ∧ (SqL K H p ys ∨ SqT K H p ys) ∧ ∀ l, H l = none → Q (.ref l) (upd H l (.lst ys))
theorem list_ofK (e : X.K = K) : CallR X (.type "list") (rListQ K) := e ▸ call_list_of
theorem eqLK (e : X.K = K) (hu : X.A.units + 64 < cLine) : OpR X (compareOp .Eq) (rEqL K) := e ▸ op_eqL hu
theorem neLK (e : X.K = K) (hu : X.A.units + 64 < cLine) : OpR X (compareOp .NotEq) (rNeL K) := e ▸ op_neL hu
theorem pi_listK {tg l : Expr} {tl : TE} (e : X.K = K) (hl : PE X l tl) : PI X tg l (iList K tl) := e ▸ pi_list hl
theorem pi_tupK {tg l : Expr} {tl : TE} (e : X.K = K) (hl : PE X l tl) : PI X tg l (iTup K tl) := e ▸ pi_tup hl
theorem pg_tupK {es : List Expr} {k : Nat} {t : TGs} {n : Nat} {pos : Pos} (e : X.K = K) (hc : X.calm = true) (h : PGs X es t)
    (hn : (assignEach es X.env).length = n := by rfl) (hst : (assignEach es X.env).findIdx? (·.1) = none := by rfl) : PG X (.Tuple es k pos) (gTup K n t) := e ▸ pg_tup hc h hn hst
theorem pe_fldK {e : Expr} {ta : TE} {f : Str} {pos : Pos} (q : X.K = K) (ha : PE X e ta) (hb : attributeBase e f X.env (eval e X.env) = eval e X.env) : PE X (.Attribute e f pos) (tFld K ta f) := q ▸ pe_fld ha hb
section
variable {T : String} {r : V → List V → Hp → VK → Prop} {to : TE} {t : TA}
theorem bmK {e : Expr} (q : X.K = K) (h : PE X e (tBM X.K T r to t)) : PE X e (tBM K T r to t) := q ▸ h
theorem bm0K {e : Expr} (q : X.K = K) (h : PE X e (tBM0 X.K T r to)) : PE X e (tBM0 K T r to) := q ▸ h
end
section
variable {P : Program} {w : World} {o i e f value : Expr} {pos pos' tpos apos cpos : Pos} {td ty tv tx : TE}
theorem pe_ngetK (q : X.prog = P) (z : X.w = w) (hu : X.A.units + 64 < cLine) (ho : PE X o td) (hi : PE X i ty) (hs : NoSl i) : PE X (.Subscript o i pos) (tNGet P w td ty) := by
  subst q z
  exact pe_nget hu ho hi hs
theorem ps_nputK (q : X.prog = P) (z : X.w = w) (hu : X.A.units + 64 < cLine) (ho : PE X o td) (hi : PE X i ty) (hv : PE X value tv) (hs : swapsWith value (some (.Subscript o i pos')) pos.line X.env = pure false) :
    PS X (.Assign [.Subscript o i pos'] value pos) (sNPut P w td ty tv) := by
  subst q z
  exact ps_nput hu ho hi hv hs
theorem pe_nget2K (q : X.prog = P) (z : X.w = w) (hu : X.A.units + 64 < cLine) (ho : PE X o td) (he : PE X e ty) (hf : PE X f tx) (m : M2 X o "get" apos e f cpos) : PE X (.Call (.Attribute o "get" apos) [e, f] [] cpos) (tNGet2 P w td ty tx) := by
  subst q z
  exact pe_nget2 hu ho he hf m
end
end

/-! ### a comprehension of data -/
theorem range_filterMap {α : Type} (F : Nat → Option α) (n : Nat) : (List.range (n + 1)).filterMap F = (List.range n).filterMap F ++ (match F n with | some d => [d] | none => []) := by
  rw [List.range_succ, List.filterMap_append]
  congr 1
  cases h : F n <;> simp [h]
theorem lc_data {J : It} {n : Nat} {G : Hp → Prop} {Y : Nat → Hp → V → Hp → Prop} (wk : Walk J n G Y) {g : TG} {tt : TT} {te : TE} {vs : List Nat} {σ : L2.St} {H1 : Hp} {D' : Addr} {Qd : Hp → Prop} (hD : H1 D' = none) (hn : n ≤ 100000) (F : Nat → Option D)
    (hG : ∀ H', Le H1 H' → G H')
    (hs : ∀ i x H' H'', i < n → Le H1 H' → Y i H' x H'' → ∀ (Yk : V → Hp → Prop) (Nk : Hp → Prop), (∀ y H4 d, Le H' H4 → F i = some d → At H4 d y → Yk y H4) → (∀ H3, Le H' H3 → F i = none → Nk H3) →
      g x (wipe σ vs) H'' fun σ2 H2 => wipe σ2 vs = wipe σ vs ∧ tt σ2 H2 fun b H3 => if b = true then te σ2 H3 Yk else Nk H3)
    (hd : ∀ H' xs, Le H1 H' → H' D' = some (.lst xs) → Ats H' ((List.range n).filterMap F) xs → Qd H') :
    ∃ W : Nat → Nat → Hp → Prop, (∃ m, W 0 m (L2.upd H1 D' (.lst []))) ∧ ∀ i m H, W i m H →
      (J.stop i H ∧ Qd H) ∨ (J.go i H ∧ ∃ Nx : Hp → Prop, (∀ H', Nx H' → ∃ m', m' < m ∧ W (i + 1) m' H') ∧ ∀ x H', J.yld i H x H' → g x (wipe σ vs) H' fun σ2 H2 => wipe σ2 vs = wipe σ vs ∧ tt σ2 H2 fun b H3 =>
        if b = true then te σ2 H3 fun y H4 => ∃ acc, H4 D' = some (.lst acc) ∧ acc.length < sizeLine ∧ Nx (L2.upd H4 D' (.lst (acc ++ [y]))) else Nx H3) := by
  refine lc_it wk (fun i H' => Le H1 H' ∧ ∃ xs, H' D' = some (.lst xs) ∧ Ats H' ((List.range i).filterMap F) xs) ⟨.new hD, [], upd_same, Ats.nil⟩ (fun i H' _ h => hG H' h.1) (fun i x H' H'' hi h hy => ?_) (fun H' h => ?_)
  · obtain ⟨l, xs, hx, ha⟩ := h
    refine hs i x H' H'' hi l hy _ _ (fun y H4 d l4 hF hd' => ?_) (fun H3 l3 hF => ?_)
    · have hl : xs.length ≤ i := by
        rw [ha.length]
        exact Nat.le_trans (List.length_filterMap_le _ _) (by rw [List.length_range]; exact Nat.le_refl _)
      refine ⟨xs, l4.lst hx, Nat.lt_of_le_of_lt (Nat.le_trans hl (by omega : i ≤ 100000)) (by rw [sizeLine_eq]; decide), (l.trans l4).mut hD, _, upd_same, ?_⟩
      rw [range_filterMap, hF]
      exact Ats.app ((ha.le l4).tp (tups_upd (l4.lst hx) (fun _ z => nomatch z))) (Ats.cons (hd'.tp (tups_upd (l4.lst hx) (fun _ z => nomatch z))) Ats.nil)
    · refine ⟨l.trans l3, xs, l3.lst hx, ?_⟩
      rw [range_filterMap, hF]
      simpa using ha.le l3
  · obtain ⟨l, xs, hx, ha⟩ := h
    exact hd H' xs l hx ha
theorem scal_int {i j : Int} : scal (.int i) (.int j) = true := rfl
theorem scal_str {i j : Str} : scal (.str i) (.str j) = true := rfl
theorem scal_bl {i j : Bool} : scal (.bl i) (.bl j) = true := rfl

/-! ### where ways meet: what follows is shown once -/
def tJoin (t u : TS) : TS := fun D σ H => ∃ Mid : L2.St → Hp → Prop, t { D with nx := Mid } σ H ∧ ∀ σ' H', Mid σ' H' → u D σ' H'
theorem pss_join {X : Cx} {st : Stmt} {rest : List Stmt} {t u : TS} (h1 : PS X st t) (h2 : PSs X rest u) : PSs X (st :: rest) (tJoin t u) := by
  refine ⟨fun pins s σ H D I h => ?_⟩
  obtain ⟨Mid, ht, hu⟩ := h
  refine wpAny_execs_cons (thn (h1.run pins s σ H { D with nx := Mid } I ht) fun fl s1 q => ?_)
  cases fl with
  | ret v => exact q
  | brk => exact q
  | cont => exact q
  | next =>
    obtain ⟨σ1, H1, I1, m⟩ := q
    exact h2.run pins s1 σ1 H1 D I1 (hu σ1 H1 m)
def iv : V → Int
  | .int n => n
  | _ => 0
theorem ats_sd {H : Hp} : ∀ {Z : List (Option Str)} {ys : List V}, Ats H (Z.map sd) ys → ys = Z.map sg
  | [], _, h => h.of_nil
  | z :: Z, _, h => by
    obtain ⟨v, r, e, h1, h2⟩ := Ats.of_cons h
    rw [e, ats_sd h2, List.map_cons]
    congr 1
    cases z with
    | none => exact h1.of_non
    | some x => exact h1.of_str

theorem ixN_of {n : Nat} {z : Int} (h0 : 0 ≤ z) (h1 : z < n) : ixN n z = some z.toNat := by
  unfold ixN
  rw [if_pos h0, if_pos h1]

/-! ### calls of own defs that let nothing out -/
structure Cal (P : Program) (w : World) (K : PySem.W.Frag) (mg : Str → Option Value) (base : Heap) (CX : CXT) (k : Nat) (x : Str) (ps : List Str) (sp : Sp) (f : Addr) (fd : FuncData) : Prop where
  ok : FnOk P w K mg base CX k f fd ps sp
  gl : mg x = some (.ref f)
  kp : PySem.W.keepIn K (.ref f) = true
  bd : Binds K fd ps []
section
variable {X : Cx} {k : Nat} {x : Str} {ps : List Str} {sp : Sp} {f : Addr} {fd : FuncData} {p pos : Pos} {e : Expr} {es : List Expr} {t : TA}
theorem pe_own (c : Cal X.prog X.w X.K X.mg X.base CX0 k x ps sp f fd) (hr : Room k X.A) (hg : Gl X x) (ha : PA X (e :: es) t) (hdb : (x == ("__debug__" : Str)) = false := by decide)
    (he : starEach (e :: es) X.env = (false, eval e X.env) :: starEach es X.env := by rfl) (hpl : (backTo pos (starEach es X.env)).any (·.1) = false := by rfl) :
    PE X (.Call (.Name x p) (e :: es) [] pos) (tCall sp [] E0 t) := pe_call c.ok hr hg c.gl c.kp c.bd .nil pass0 ha hdb he hpl
end

/-! ### the builtins' names -/
theorem bb_range : bootBuiltins "range" = some (.type "range") := by decide +kernel
theorem bb_str : bootBuiltins "str" = some (.type "str") := by decide +kernel
theorem bb_int : bootBuiltins "int" = some (.type "int") := by decide +kernel
theorem bb_bool : bootBuiltins "bool" = some (.type "bool") := by decide +kernel
theorem bb_list : bootBuiltins "list" = some (.type "list") := by decide +kernel
theorem bb_tuple : bootBuiltins "tuple" = some (.type "tuple") := by decide +kernel
theorem bb_dict : bootBuiltins "dict" = some (.type "dict") := by decide +kernel
theorem bb_set : bootBuiltins "set" = some (.type "set") := by decide +kernel
theorem bb_enumerate : bootBuiltins "enumerate" = some (.type "enumerate") := by decide +kernel
theorem bb_len : bootBuiltins "len" = some (.builtin "len") := by decide +kernel
theorem bb_isinstance : bootBuiltins "isinstance" = some (.builtin "isinstance") := by decide +kernel
theorem bb_min : bootBuiltins "min" = some (.builtin "min") := by decide +kernel
theorem bb_max : bootBuiltins "max" = some (.builtin "max") := by decide +kernel
theorem bb_sum : bootBuiltins "sum" = some (.builtin "sum") := by decide +kernel
theorem bb_all : bootBuiltins "all" = some (.builtin "all") := by decide +kernel
structure Bt (mg : Str → Option Value) : Prop where
  b_range : mg "range" = none
  b_str : mg "str" = none
  b_int : mg "int" = none
  b_bool : mg "bool" = none
  b_list : mg "list" = none
  b_tuple : mg "tuple" = none
  b_dict : mg "dict" = none
  b_set : mg "set" = none
  b_enumerate : mg "enumerate" = none
  b_len : mg "len" = none
  b_isinstance : mg "isinstance" = none
  b_min : mg "min" = none
  b_max : mg "max" = none
  b_sum : mg "sum" = none
  b_all : mg "all" = none
end Lt

/-! Lt, part D: dicts: length, list of the keys, a copy, two the same, cleared. -/
namespace Lt
open PySem PySem.Spec PyProof.Rows L2

section
variable {X : Cx}
/-- how many keys the object has -/
def SizeIs (o : Obj) (n : Nat) : Prop := ∃ es ep, o.ExactDict ∧ o.data = .dict es ep ∧ es.size = n
theorem size_ND {P : Program} {w : World} {H : Hp} {o : Obj} {kvs : List (D × V)} (h : IsND P w H o kvs) : SizeIs o kvs.length := by
  obtain ⟨z, es, ep, xs, h1, h2, h3, h4, r⟩ := h
  exact ⟨es, ep, h1, h2, by rw [size_of_entries h3, r.length]⟩
def rLenN : List V → Hp → VK → Prop := fun xs H Q => ∃ d o n, xs = [.ref d] ∧ H d = some (raw d o) ∧ SizeIs o n ∧ (d == sysModules) = false ∧ n ≤ sizeLine ∧ Q (.int n) H
theorem call_lenN : CallR X (.builtin "len") rLenN := by
  intro pins s σ H xs us Q I r h
  obtain ⟨d, o, n, rfl, hd, ⟨es, ep, h1, h2, h3⟩, hs, hn, q⟩ := h
  obtain ⟨u, rfl, ru⟩ := vals1 r
  cases ru
  have hr : s.heap.DictRaw d es ep := ⟨o, raw_get I.hok hd, h1, h2⟩
  rw [sizeLine_eq] at hn
  refine call_len_slot (n := (n : Int)) hr.typeIs PySem.F.slot_dict_len (fun Q' hq => call_len_raw hs hr ?_) (by omega) (by omega) ⟨.int n, H, I.tok _, ⟨_, rfl⟩, q⟩
  rw [h3]
  exact hq
/-- list(d) -/
def rListN : List V → Hp → VK → Prop := fun xs H Q => ∃ d o ks, xs = [.ref d] ∧ H d = some (raw d o) ∧ KeysAre o ks ∧ (d == sysModules) = false ∧ ks.length ≤ sizeLine ∧ ∀ p, H p = none → Q (.ref p) (L2.upd H p (.lst ks))
theorem call_listN (hc : X.calm = true) : CallR X (.type "list") rListN := by
  intro pins s σ H xs us Q I r h
  obtain ⟨d, o, ks, rfl, hd, ⟨es, ep, h1, h2, hv⟩, hs, hn, q⟩ := h
  obtain ⟨u, rfl, ru⟩ := vals1 r
  cases ru
  have hr : s.heap.DictRaw d es ep := ⟨o, raw_get I.hok hd, h1, h2⟩
  have hsz : ks.length = es.size := by
    rw [hv.length, List.length_map, Array.length_toList]
  refine PySem.W.kdl_call (KdlSrc.rawDict hs) (I.ok.hd hc) hr (by rw [← hsz]; exact hn) fun h' tk acc c' kp e it => ?_
  refine ⟨.ref s.heap.objs.size, _, I.laid (t' := tk) (o := .lst ks) kp (Nat.le_refl _) ⟨hn, acc.toList, c', ?_, by rw [Array.toArray_toList]; exact e⟩, rfl, q _ (I.hok.fresh (Nat.le_refl _))⟩
  have ea : acc.toList = es.toList.map (·.key) := by
    refine List.ext_getElem? fun i => ?_
    rw [List.getElem?_map, Array.getElem?_toList, Array.getElem?_toList]
    by_cases hi : i < es.size
    · have ha : i < acc.size := by rw [it.1]; exact hi
      obtain ⟨_, e2⟩ := it.2 i acc[i] (Array.getElem?_eq_getElem ha)
      rw [Array.getElem?_eq_getElem ha, Array.getElem?_eq_getElem hi, e2]
      rfl
    · have ha : ¬ i < acc.size := by rw [it.1]; exact hi
      rw [Array.getElem?_eq_none (by omega), Array.getElem?_eq_none (by omega)]
      rfl
  rw [ea]
  exact hv
theorem keys_ND {P : Program} {w : World} {H : Hp} {o : Obj} {kvs : List (D × V)} (h : IsND P w H o kvs) : ∃ ks, KeysAre o ks ∧ Ats H (kvs.map (·.1)) ks := by
  obtain ⟨z, es, ep, xs, h1, h2, h3, h4, r⟩ := h
  refine ⟨xs.map fun x => .ref x.2.1, ⟨es, ep, h1, h2, ?_⟩, ?_⟩
  · rw [h3, List.map_map]
    have go : ∀ l : List (D × Addr × Value), Vals (l.map fun x => V.ref x.2.1) (l.map ((fun e : DictEntry => e.key) ∘ entryOfKey (nestedKind P w))) := by
      intro l
      induction l with
      | nil => exact .nil
      | cons a l ih => exact .cons rfl ih
    exact go xs
  · unfold Ent at r
    clear h3 h4 z
    induction r with
    | nil => exact Ats.nil
    | cons h t ih => exact Ats.cons h.2.1.1 ih

/-- two dicts the same -/
theorem same_nd {pins : List (Addr × Obj)} {σ : L2.St} {H : Hp} {s : Shared} {A : Around} {E : Value → Shared → Prop} {nm : String} {a b : Addr} {ka kb : List (D × V)} {Q : Bool → Shared → Prop} (hu : A.units + 60 < cLine) (I : Inv X pins σ H s)
    (ha : ND X.prog X.w H a ka) (hb : ND X.prog X.w H b kb) (hl : ka.length = kb.length) (hp : ∀ p ∈ ka, valV kb p.1 = some p.2 ∧ flatB p.2 = true) (h : Q true s) :
    wpAny (model X.prog X.w) A (Builtin.Dict.samePairs nm a b) Q E s := by
  obtain ⟨za, sa, xa, ra, oa, ea, pa, ga, _, da, la, ia, na⟩ := ha.dict I.hok
  obtain ⟨zb, sb, xb, rb, ob, eb, pb, gb, _, db, lb, ib, nb⟩ := hb.dict I.hok
  have sza : ea.size = xa.length := size_of_entries la
  have szb : eb.size = xb.length := size_of_entries lb
  have hsz : ea.size = eb.size := by rw [sza, szb, ← ra.length, ← rb.length, hl]
  unfold Builtin.Dict.samePairs Builtin.Dict.showsAll
  rw [if_neg (by rw [sa]; exact Bool.false_ne_true), if_neg (by rw [sb]; exact Bool.false_ne_true)]
  refine wpAny_bind (wpAny_pure (wpAny_bind (wpAny_pure (wpAny_bind (wpAny_dictEntries ga da ?_)))))
  dsimp only
  refine wpAny_bind (wpAny_dictEntries gb db ?_)
  rw [if_neg (by rw [hsz]; simp)]
  refine wpAny_bind (wpAny_dictEpoch ga da (wpAny_bind ?_))
  rw [Std.Legacy.Range.forIn_eq_forIn_range']
  simp only [Std.Legacy.Range.size, Nat.sub_zero, Nat.add_sub_cancel, Nat.div_one]
  refine wpAny_forIn_list _ (fun l q t => t = s ∧ q = (none, ()) ∧ ∃ i, l = List.range' i (ea.size - i) ∧ i ≤ ea.size) _ ?_ ?_ _ _ ⟨rfl, rfl, 0, by simp, Nat.zero_le _⟩
  · rintro x l q t ⟨rfl, rfl, i, hr, hi⟩
    have hlt : i < ea.size := by
      rcases Nat.lt_or_ge i ea.size with g | g
      · exact g
      · rw [Nat.sub_eq_zero_of_le g] at hr
        cases hr
    have e1 : ea.size - i = (ea.size - (i + 1)) + 1 := by omega
    rw [e1, List.range'_succ] at hr
    injection hr with hx hl'
    subst hx hl'
    refine wpAny_bind (wpAny_dictEntries ga da ?_)
    have hxa : x < xa.length := by omega
    have hka : x < ka.length := by rw [ra.length]; exact hxa
    obtain ⟨y, hy, k1, ⟨k2, k3⟩, k4⟩ := ra.get (List.getElem?_eq_getElem hka)
    obtain ⟨v1, v2⟩ := hp _ (List.getElem_mem hka)
    have hE : ea[x]? = some (entryOfKey (nestedKind X.prog X.w) y) := by
      rw [entry_at la, hy]
      rfl
    rw [hE]
    show wpAny _ _ (holding [(entryOfKey (nestedKind X.prog X.w) y).key, (entryOfKey (nestedKind X.prog X.w) y).val] _ >>= _) _ _ _
    have hyk : (nestedKind X.prog X.w).is t.heap ka[x].1 y.2.1 := key_is I.hok k2 k3
    refine wpAny_bind (wpAny_holding (wpAny_bind ?_))
    show wpAny _ _ (dictFind b (.ref y.2.1) ((nestedKind X.prog X.w).hash y.1)) _ _ _
    rw [← k1]
    have hfound : ∃ (j : Nat) (p : Addr × Value), xb[j]? = some (ka[x].1, p) ∧ RelV ka[x].2 p.2 := by
      obtain ⟨u, hu', ru⟩ := RelO.some_of (v := ka[x].2) (o := (atKey xb ka[x].1).map (·.2)) (by rw [← v1]; exact rb.val _)
      obtain ⟨p, hp1, hp2⟩ := Option.map_eq_some_iff.mp hu'
      unfold atKey at hp1
      obtain ⟨z, hz, ez⟩ := Option.map_eq_some_iff.mp hp1
      have hz1 := List.find?_some hz
      simp only [decide_eq_true_eq] at hz1
      obtain ⟨j, hj⟩ := List.mem_iff_getElem?.mp (List.mem_of_find?_eq_some hz)
      exact ⟨j, p, by rw [hj, ← hz1, ← ez], by rw [hp2]; exact ru⟩
    refine wpAny_dictFind_heap (knd := nestedKind X.prog X.w) (by show A.units + 8 < cLine; omega) hyk gb db lb ib nb (fun hno => ?_) (fun j p hj => ?_)
    · obtain ⟨j, p, hj, _⟩ := hfound
      exact absurd hj (hno j p)
    · obtain ⟨j', p', hj', rp⟩ := hfound
      have ej : j = j' := idxH_unique nb hj hj'
      subst ej
      rw [hj] at hj'
      cases hj'
      refine wpAny_bind (wpAny_dictEntries gb db ?_)
      rw [entry_at lb, hj]
      refine wpAny_holding (eqAt_same k4 rp v2 _ _ _ _ ?_)
      show wpAny _ _ (if (!true) = true then _ else _) _ _ _
      rw [if_neg (by decide)]
      refine wpAny_bind (wpAny_dictEpoch ga da ?_)
      rw [if_neg (by simp)]
      exact wpAny_pure ⟨rfl, rfl, x + 1, rfl, hlt⟩
  · rintro q t ⟨rfl, rfl, _⟩
    exact wpAny_pure h
def rSameN (P : Program) (w : World) (r : Bool) : R2 := fun x y H Q => ∃ a b ka kb, x = .ref a ∧ y = .ref b ∧ ND P w H a ka ∧ ND P w H b kb ∧ ka.length = kb.length ∧ (∀ p ∈ ka, valV kb p.1 = some p.2 ∧ flatB p.2 = true) ∧ Q (.bl r) H
theorem op_eqN (hu : X.A.units + 64 < cLine) : OpR X (compareOp .Eq) (rSameN X.prog X.w true) := by
  intro pins s σ H x y v u Q I rx ry h
  obtain ⟨a, b, ka, kb, rfl, rfl, ea, eb, hl, hp, q⟩ := h
  obtain rfl : v = Value.ref a := rx
  obtain rfl : u = Value.ref b := ry
  obtain ⟨ta, _, _, _⟩ := isDict_at I ea.isDict
  obtain ⟨tb, _, _, _⟩ := isDict_at I eb.isDict
  refine wpAny_richCompare_same_room (op := .Eq) ta tb PySem.F.slot_dict_eq (wpAny_call_entry PySem.F.slot_dict_eq ta PySem.F.entry_dict_eq ?_ (PySem.F.args_dict_eq_2 _ _)) (by omega)
  show wpAny _ _ (Builtin.Dict.dictSlotArgs "__eq__" ⟨[.ref a, .ref b], []⟩ >>= _) _ _ s
  refine wpAny_bind ?_
  unfold Builtin.Dict.dictSlotArgs
  refine wpAny_bind (wpAny_notOrdered_dict ta ?_)
  show wpAny _ _ (pure (Value.ref a, Value.ref b)) _ _ s
  refine wpAny_pure (wpAny_bind (wpAny_isInstance (T := "dict") tb PySem.F.sub_dict_dict ?_))
  simp only [Bool.not_true, Bool.false_eq_true, if_false]
  refine wpAny_bind (wpAny_pure (wpAny_bind (wpAny_pure (wpAny_bind (same_nd (by show X.A.units + 1 + 60 < cLine; omega) I ea eb hl hp (wpAny_pure ⟨_, rfl, ?_, ?_⟩))))))
  · exact fun z => nomatch z
  · exact ⟨.bl true, H, I, rfl, q⟩
theorem op_neN (hu : X.A.units + 64 < cLine) : OpR X (compareOp .NotEq) (rSameN X.prog X.w false) := by
  intro pins s σ H x y v u Q I rx ry h
  obtain ⟨a, b, ka, kb, rfl, rfl, ea, eb, hl, hp, q⟩ := h
  obtain rfl : v = Value.ref a := rx
  obtain rfl : u = Value.ref b := ry
  obtain ⟨ta, _, _, _⟩ := isDict_at I ea.isDict
  obtain ⟨tb, _, _, _⟩ := isDict_at I eb.isDict
  refine wpAny_richCompare_same_room (op := .NotEq) ta tb PySem.F.slot_dict_ne (wpAny_call_entry PySem.F.slot_dict_ne ta PySem.F.entry_dict_ne ?_ (PySem.F.args_dict_ne_2 _ _)) (by omega)
  show wpAny _ _ (Builtin.Dict.dictSlotArgs "__ne__" ⟨[.ref a, .ref b], []⟩ >>= _) _ _ s
  refine wpAny_bind ?_
  unfold Builtin.Dict.dictSlotArgs
  refine wpAny_bind (wpAny_notOrdered_dict ta ?_)
  show wpAny _ _ (pure (Value.ref a, Value.ref b)) _ _ s
  refine wpAny_pure (wpAny_bind (wpAny_isInstance (T := "dict") tb PySem.F.sub_dict_dict ?_))
  simp only [Bool.not_true, Bool.false_eq_true, if_false]
  refine wpAny_bind (wpAny_pure (wpAny_bind (wpAny_pure (wpAny_bind (same_nd (by show X.A.units + 1 + 60 < cLine; omega) I ea eb hl hp (wpAny_pure ⟨_, rfl, ?_, ?_⟩))))))
  · exact fun z => nomatch z
  · exact ⟨.bl false, H, I, rfl, q⟩
theorem eqNK {P : Program} {w : World} (q : X.prog = P) (z : X.w = w) (hu : X.A.units + 64 < cLine) : OpR X (compareOp .Eq) (rSameN P w true) := by
  subst q z
  exact op_eqN hu
theorem neNK {P : Program} {w : World} (q : X.prog = P) (z : X.w = w) (hu : X.A.units + 64 < cLine) : OpR X (compareOp .NotEq) (rSameN P w false) := by
  subst q z
  exact op_neN hu

/-- dict(d) of a dict whose keys hash apart: the same keys and values -/
def rDictN (P : Program) (w : World) : List V → Hp → VK → Prop := fun xs H Q => ∃ d kvs, xs = [.ref d] ∧ ND P w H d kvs ∧ (kvs.map fun p => p.1.hash w).Nodup ∧ (∀ p ∈ kvs, ∃ ks, p.1 = .tup ks) ∧ ∀ p o, H p = none → (p == sysModules) = false → IsND P w H o kvs → Q (.ref p) (L2.upd H p (raw p o))
theorem call_dictN (hu : X.A.units + 64 < cLine) : CallR X (.type "dict") (rDictN X.prog X.w) := by
  intro pins s σ H xs us Q I r h
  obtain ⟨d, kvs, rfl, hd, hh, hk, q⟩ := h
  obtain ⟨u, rfl, ru⟩ := vals1 r
  cases ru
  obtain ⟨zd, sd', xd, rd, dd⟩ := hd.dict I.hok
  obtain ⟨_, o0, e0, _⟩ := id hd
  have hnew : (s.heap.push { cls := .type "dict", data := .dict #[] }).DictOfH (nestedKind X.prog X.w) s.heap.objs.size [] := Heap.DictOfH.new s.heap
  have k0 : ∀ b o, s.heap.get? b = some o → (s.heap.push { cls := .type "dict", data := .dict #[] }).get? b = some o := fun b o e => Heap.get?_push_of_some _ e
  have I1 : Inv X pins σ H { s with heap := s.heap.push { cls := .type "dict", data := .dict #[] } } := I.kept (t' := s.toks) k0
  have dd1 : (s.heap.push { cls := .type "dict", data := .dict #[] }).DictOfH (nestedKind X.prog X.w) d xd := by
    obtain ⟨z1, z2, z3, z4, z5⟩ := hd.dict I1.hok
    obtain ⟨o, es, ep, g1, g2, g3, g4, g5, g6⟩ := dd
    exact ⟨o, es, ep, k0 _ _ g1, g2, g3, g4, ent_is I1.hok rd, g6⟩
  have hlt : d < s.heap.objs.size := by
    obtain ⟨o, es, ep, g1, _⟩ := dd
    exact Heap.lt_size g1
  refine callType_codes (Q₁ := fun obj s₁ => obj = .ref s.heap.objs.size ∧ s₁ = { s with heap := s.heap.push { cls := .type "dict", data := .dict #[] } }) PySem.F.kt_called_dict (PySem.F.kt_typeCall_dict_1 _) PySem.F.entry_dict_init (kt_code_dict_new _ ⟨rfl, rfl⟩) ?_
  rintro obj s₁ ⟨rfl, rfl⟩
  refine ⟨hnew.typeIs, PySem.F.args_dict_init_2 _ _, ?_⟩
  unfold Builtin.«dict.__init__»
  refine wpAny_bind ?_
  unfold Builtin.Dict.selfAndRest
  refine wpAny_bind (wpAny_notOrdered_dict hnew.typeIs ?_)
  show wpAny _ _ (pure (s.heap.objs.size, [Value.ref d])) _ _ _
  refine wpAny_pure ?_
  show wpAny _ _ (Builtin.Dict.updateFrom "dict.__init__" s.heap.objs.size (.ref d) [] .none) _ _ _
  have hz : xd.length ≤ sizeLine := by rw [← rd.length]; exact zd
  have hap : ((xd.map fun x => (nestedKind X.prog X.w).hash x.1)).Nodup := by
    have e : xd.map (fun x => (nestedKind X.prog X.w).hash x.1) = kvs.map fun p => p.1.hash X.w := by
      have := congrArg (List.map (fun k => NestedKey.hash X.w k)) rd.keys
      rw [List.map_map, List.map_map] at this
      exact this.symm
    rw [e]
    exact hh
  refine updateFrom_dictH (knd := nestedKind X.prog X.w) .none (by show X.A.units + 1 + 1 + 8 < cLine; omega) (Nat.ne_of_gt hlt) sd' hnew dd1 (.inr ⟨fun x hx => ?_, hap⟩) (by rw [List.length_nil, Nat.zero_add]; exact hz) fun h' hd' ho' hs' => ⟨rfl, ?_⟩
  · obtain ⟨i, hi⟩ := List.mem_iff_getElem?.mp hx
    have hl : i < kvs.length := by
      rw [rd.length]
      exact (List.getElem?_eq_some_iff.mp hi).1
    obtain ⟨y, hy, k1, ⟨k2, k3⟩, _⟩ := rd.get (List.getElem?_eq_getElem hl)
    rw [hi] at hy
    cases hy
    obtain ⟨ks, ek⟩ := hk _ (List.getElem_mem hl)
    rw [ek] at k2
    have q1 := At.isk I1.hok _ _ _ k2 (show RelV (.ref x.2.1) (.ref x.2.1) from rfl)
    cases q1 with
    | tup g1 g2 _ _ => exact ⟨_, g1, g2⟩
  · have e : storedAllH [] xd = xd := storedAllH_nil_of_nodup xd (by obtain ⟨_, _, _, _, _, _, _, _, hn⟩ := dd; exact hn)
    rw [e] at hd'
    obtain ⟨o, ho, io⟩ := isND_of (H := H) zd rd hd'
    have kp : ∀ b ob, s.heap.get? b = some ob → h'.get? b = some ob := fun b ob eb => (hs'.2 b (Nat.ne_of_lt (Heap.lt_size eb))).trans (k0 _ _ eb)
    exact ⟨.ref s.heap.objs.size, _, Inv.rawnew (s := s) (a := s.heap.objs.size) (t' := s.toks) I kp (Nat.le_refl _) ho, rfl, q _ o (I.hok.fresh (Nat.le_refl _)) (nosys I (Nat.le_refl _)) io⟩
theorem dictNK {P : Program} {w : World} (q : X.prog = P) (z : X.w = w) (hu : X.A.units + 64 < cLine) : CallR X (.type "dict") (rDictN P w) := by
  subst q z
  exact call_dictN hu
end
end Lt

/-! Lt, part E: sum of lists. -/
namespace Lt
open PySem PySem.Spec PyProof.Rows L2

abbrev LAt (h : Heap) (a : Addr) (xs : List Value) : Prop := ∃ n, h.get? a = some { cls := .type "list", data := .seq xs.toArray n }
theorem LAt.keep {h h' : Heap} {a : Addr} {xs : List Value} (x : LAt h a xs) (k : ∀ o, h.get? a = some o → h'.get? a = some o) : LAt h' a xs := let ⟨n, e⟩ := x; ⟨n, k _ e⟩
theorem LAt.isList {h : Heap} {a : Addr} {xs : List Value} (x : LAt h a xs) : h.IsList a xs.toArray := let ⟨n, e⟩ := x; ⟨_, e, rfl, n, rfl⟩
theorem LAt.lt {h : Heap} {a : Addr} {xs : List Value} (x : LAt h a xs) : a < h.objs.size := let ⟨_, e⟩ := x; Heap.lt_size e
theorem flat_take {α : Type} {src : List (List α)} {i : Nat} {x : List α} (h : src[i]? = some x) : (src.take (i + 1)).flatten = (src.take i).flatten ++ x := by
  obtain ⟨hi, e⟩ := List.getElem?_eq_some_iff.mp h
  rw [List.take_succ_eq_append_getElem hi, List.flatten_append, e]
  simp
theorem flat_le {α : Type} (src : List (List α)) (i : Nat) : (src.take i).flatten.length ≤ src.flatten.length := by
  have e : src.flatten = (src.take i).flatten ++ (src.drop i).flatten := by rw [← List.flatten_append, List.take_append_drop]
  rw [e, List.length_append]
  omega
section
variable {P : Program} {w : World} {A : Around}
theorem sum_loop {R : Result → Shared → Prop} {I l S : Addr} {its : List Value} {src : List (List Value)} (hh : A.handled = none) (hl : its.length = src.length) (hz : src.flatten.length ≤ sizeLine) (hSI : S ≠ I) (hlS : l ≠ S) (hlI : l ≠ I) :
    ∀ (k i : Nat) (s : Shared) (acc : Addr) (c : Nat), its.length - i = k → i ≤ its.length → s.heap.IsListIter I l i → s.heap.IsList l its.toArray →
      (∀ (j : Nat) (x : List Value), src[j]? = some x → ∃ b, its[j]? = some (.ref b) ∧ b ≠ S ∧ b ≠ I ∧ LAt s.heap b x) →
      s.heap.get? S = some { cls := .type "list", dict := none, data := .seq #[.ref acc] c, slots := #[] } → acc ≠ S → acc ≠ I → LAt s.heap acc (src.take i).flatten →
      (∀ h' tk p, (∀ b o, b ≠ S → b ≠ I → s.heap.get? b = some o → h'.get? b = some o) → LAt h' p src.flatten → (p = acc ∨ s.heap.objs.size ≤ p) → R (.ok (.ret (.ref p))) { s with heap := h', toks := tk }) →
      codeAny (model P w) A (.builtin "sum.loop" ⟨[.ref I, .ref S, rawInt 2, rawInt 0], []⟩) R s := by
  intro k
  induction k with
  | zero =>
    intro i s acc c hk hi hit hlist hb hS h1 h2 hacc hR
    have e : i = its.length := by omega
    subst e
    refine codeAny_builtin F.entry_sum_loop ?_
    rw [Around.under_plainId F.plain_sum_loop _]
    show wpAny _ A.in1 (seqItems? (.ref S) >>= _) _ _ s
    refine wpAny_bind (wpAny_seqItems hS rfl ?_)
    show wpAny _ A.in1 (tryCatch (pyNext (.ref I)) _ >>= _) _ _ s
    refine wpAny_bind (wpAny_tryCatch (wpAny_pyNext_list_end (A := A.in1) hh hit hlist (by simp) fun h' he => ?_))
    refine wpAny_pure (hR h' s.toks acc (fun b o _ hI e => he b o hI e) ?_ (.inl rfl))
    rw [hl, List.take_length] at hacc
    exact hacc.keep fun o e => he acc o h2 e
  | succ k ih =>
    intro i s acc c hk hi hit hlist hb hS h1 h2 hacc hR
    have hlt : i < its.length := by omega
    obtain ⟨b, hb1, hb2, hb3, hb4⟩ := hb i src[i] (List.getElem?_eq_getElem (by omega))
    refine codeAny_builtin F.entry_sum_loop ?_
    rw [Around.under_plainId F.plain_sum_loop _]
    show wpAny _ A.in1 (seqItems? (.ref S) >>= _) _ _ s
    refine wpAny_bind (wpAny_seqItems hS rfl ?_)
    show wpAny _ A.in1 (tryCatch (pyNext (.ref I)) _ >>= _) _ _ s
    refine wpAny_bind (wpAny_tryCatch (wpAny_pyNext_list_item hit hlist (x := .ref b) (by simpa using hb1) fun h1' hit1 sb1 => ?_))
    have kp1 : ∀ a o, a ≠ I → s.heap.get? a = some o → h1'.get? a = some o := fun a o hne e => (sb1.2 a hne).trans e
    obtain ⟨m1, g1⟩ := hacc.keep (h' := h1') fun o e => kp1 acc o h2 e
    obtain ⟨m2, g2⟩ := hb4.keep (h' := h1') fun o e => kp1 b o hb3 e
    have hlen : (src.take i).flatten.length + src[i].length ≤ sizeLine := by
      have := flat_le src (i + 1)
      rw [flat_take (List.getElem?_eq_getElem (by omega)), List.length_append] at this
      omega
    show wpAny _ A.in1 ((holding [Value.ref b] (binaryOp .Add (.ref acc) (.ref b))).attempt >>= _) _ _ _
    refine wpAny_bind (wpAny_attempt (wpAny_holding (PySem.P.add_list (s := { s with heap := h1' }) g1 g2 ?_ (by rw [List.size_toArray, List.size_toArray]; omega))))
    have kp2 : ∀ a o, h1'.get? a = some o → (h1'.push { cls := .type "list", data := .seq ((src.take i).flatten.toArray ++ src[i].toArray) }).get? a = some o := fun a o e => Heap.get?_push_of_some _ e
    have hS2 := kp2 _ _ (kp1 _ _ hSI hS)
    show wpAny _ A.in1 (updateSeq S (fun _ => #[Value.ref h1'.objs.size]) >>= _) _ _ _
    refine wpAny_bind (wpAny_updateSeq hS2 rfl ?_)
    have hS3 := Heap.get?_update_self (Obj.mapSeq fun _ => #[Value.ref h1'.objs.size]) hS2 rfl
    refine wpAny_bind (wpAny_letGo ?_)
    refine wpAny_bind (wpAny_updateSeq hS3 rfl ?_)
    have hS4 := Heap.get?_update_self (Obj.mapSeq fun _ => #[Value.ref h1'.objs.size]) hS3 rfl
    have hSlt : S < h1'.objs.size := Heap.lt_size (kp1 _ _ hSI hS)
    have hIlt : I < h1'.objs.size := by
      obtain ⟨o, e, _⟩ := hit1
      exact Heap.lt_size e
    have kp3 : ∀ a o, a ≠ S → h1'.get? a = some o → (((h1'.push { cls := .type "list", data := .seq ((src.take i).flatten.toArray ++ src[i].toArray) }).update S (Obj.mapSeq fun _ => #[Value.ref h1'.objs.size])).update S (Obj.mapSeq fun _ => #[Value.ref h1'.objs.size])).get? a = some o := fun a o hne e =>
      (Heap.get?_update_other _ _ (Ne.symm hne)).trans ((Heap.get?_update_other _ _ (Ne.symm hne)).trans (kp2 a o e))
    have hnew : (((h1'.push { cls := .type "list", data := .seq ((src.take i).flatten.toArray ++ src[i].toArray) }).update S (Obj.mapSeq fun _ => #[Value.ref h1'.objs.size])).update S (Obj.mapSeq fun _ => #[Value.ref h1'.objs.size])).get? h1'.objs.size = some { cls := .type "list", data := .seq ((src.take i).flatten.toArray ++ src[i].toArray) } :=
      (Heap.get?_update_other _ _ (Nat.ne_of_lt hSlt)).trans ((Heap.get?_update_other _ _ (Nat.ne_of_lt hSlt)).trans (Heap.get?_push_size _ rfl))
    refine wpAny_pure ⟨plainId_quiet F.plain_sum_loop _, ih (i + 1) _ h1'.objs.size _ (by omega) hlt (hit1.at fun o e => kp3 I o (Ne.symm hSI) e) (hlist.at fun o e => kp3 l o hlS (kp1 l o hlI e)) (fun j x hj => ?_) hS4 (Nat.ne_of_gt hSlt) (Nat.ne_of_gt hIlt) ⟨0, ?_⟩ fun h' tk p kp hp hpp => ?_⟩
    · obtain ⟨b', g1', g2', g3', g4'⟩ := hb j x hj
      exact ⟨b', g1', g2', g3', g4'.keep fun o e => kp3 b' o g2' (kp1 b' o g3' e)⟩
    · rw [hnew, flat_take (List.getElem?_eq_getElem (by omega))]
      simp
    · refine hR h' tk p (fun a o hne hne2 e => kp a o hne hne2 (kp3 a o hne (kp1 a o hne2 e))) hp (.inr ?_)
      have h0 : s.heap.objs.size ≤ h1'.objs.size := Nat.le_of_eq sb1.1.symm
      rcases hpp with q | q
      · rw [q]
        exact h0
      · exact Nat.le_trans h0 (Nat.le_trans (Nat.le_of_lt (Heap.lt_size hnew)) q)
theorem off2 {a n m : Nat} (h : a < n) (e : m = n + 1) : a ≠ n ∧ a ≠ m ∧ n ≠ m ∧ m ≠ n := by omega
theorem args_sum2 (a b : Value) : argsOk "sum" ⟨[a, b], []⟩ := by unfold argsOk; kernel_rfl
theorem call_sum_lists {E : Value → Shared → Prop} {s : Shared} {l b0 : Addr} {its : List Value} {src : List (List Value)} {Q : Value → Shared → Prop} (hh : A.handled = none) (hl : its.length = src.length) (hz : src.flatten.length ≤ sizeLine) (hL : s.heap.IsList l its.toArray) (h0 : LAt s.heap b0 [])
    (hb : ∀ (j : Nat) (x : List Value), src[j]? = some x → ∃ b, its[j]? = some (.ref b) ∧ LAt s.heap b x)
    (h : ∀ h' tk p, (∀ b o, s.heap.get? b = some o → h'.get? b = some o) → LAt h' p src.flatten → (p = b0 ∨ s.heap.objs.size ≤ p) → Q (.ref p) { s with heap := h', toks := tk }) :
    wpAny (model P w) A (call (.builtin "sum") [.ref l, .ref b0]) Q E s := by
  refine call_function_tree F.kind_sum F.plain_sum F.entry_sum (args_sum2 _ _) ?_
  unfold Builtin.«sum»
  simp only [List.length_cons, List.length_nil]
  rw [if_neg (by decide)]
  refine wpAny_bind (wpAny_of_eq (show Builtin.Builtins.bindParams "sum" ["start"] 0 ⟨[.ref b0], []⟩ = pure [some (.ref b0)] from rfl) ?_)
  refine wpAny_bind (wpAny_pyIter_list hL ?_)
  obtain ⟨n0, e0⟩ := h0
  have e0' : (s.heap.push { cls := .type "list_iterator", data := .fields #[.ref l, .int 0 0] }).get? b0 = some { cls := .type "list", data := .seq ([] : List Value).toArray n0 } := Heap.get?_push_of_some _ e0
  have ty0 : ({ s with heap := s.heap.push { cls := .type "list_iterator", data := .fields #[.ref l, .int 0 0] } } : Shared).TypeIs (.ref b0) "list" := ⟨_, e0', rfl⟩
  refine wpAny_bind (wpAny_pure ?_)
  simp only [List.forIn_cons, List.forIn_nil]
  refine wpAny_bind (wpAny_bind (wpAny_bind (wpAny_isInstance (T := "list") (b := false) ty0 (by rw [isSubtype_type]; kernel_rfl) ?_)))
  simp only [Bool.false_eq_true, if_false]
  refine wpAny_pure (wpAny_bind (wpAny_bind (wpAny_isInstance (T := "list") (b := false) ty0 (by rw [isSubtype_type]; kernel_rfl) ?_)))
  simp only [Bool.false_eq_true, if_false]
  refine wpAny_pure (wpAny_bind (wpAny_bind (wpAny_isInstance (T := "list") (b := false) ty0 (by rw [isSubtype_type]; kernel_rfl) ?_)))
  simp only [Bool.false_eq_true, if_false]
  refine wpAny_pure (wpAny_pure ?_)
  refine wpAny_bind (wpAny_newObj_type ?_ (by show 1 ≤ sizeLine; rw [sizeLine_eq]; decide))
  have kp : ∀ b o, s.heap.get? b = some o → ((s.heap.push { cls := .type "list_iterator", data := .fields #[.ref l, .int 0 0] }).push { cls := .type "list", data := .seq #[.ref b0] }).get? b = some o := fun b o e => Heap.get?_push_of_some _ (Heap.get?_push_of_some _ e)
  have hlt : l < s.heap.objs.size := by
    obtain ⟨o, e, _⟩ := hL
    exact Heap.lt_size e
  have hblt : b0 < s.heap.objs.size := Heap.lt_size e0
  have esz : (s.heap.push { cls := .type "list_iterator", data := .fields #[.ref l, .int 0 0] }).objs.size = s.heap.objs.size + 1 := Heap.size_push ..
  refine wpAny_pure ⟨plainId_quiet F.plain_sum_loop _, sum_loop (its := its) (src := src) hh hl hz (l := l) (S := (s.heap.push { cls := .type "list_iterator", data := .fields #[.ref l, .int 0 0] }).objs.size) (I := s.heap.objs.size)
    (off2 hlt esz).2.2.2 (off2 hlt esz).2.1 (off2 hlt esz).1 _ 0 _ b0 0 rfl (Nat.zero_le _) (Heap.IsListIter.at (h := s.heap.push { cls := .type "list_iterator", data := .fields #[.ref l, .int 0 0] }) ⟨_, Heap.get?_push_size _ rfl, rfl, rfl⟩ fun o e => Heap.get?_push_of_some _ e) (hL.at fun o e => kp l o e)
    (fun j x hj => ?_) (Heap.get?_push_size _ rfl) (off2 hblt esz).2.1 (off2 hblt esz).1 ⟨n0, kp _ _ e0⟩ fun h' tk p k hp hpp => ?_⟩
  · obtain ⟨b, e1, e2⟩ := hb j x hj
    have hlb := e2.lt
    exact ⟨b, e1, (off2 hlb esz).2.1, (off2 hlb esz).1, e2.keep fun o e => kp b o e⟩
  · refine h h' tk p (fun b o e => ?_) hp ?_
    · have hlb := Heap.lt_size e
      exact k b o (off2 hlb esz).2.1 (off2 hlb esz).1 (kp b o e)
    · rcases hpp with q | q
      · exact .inl q
      · refine .inr (Nat.le_trans ?_ q)
        show s.heap.objs.size ≤ ((s.heap.push { cls := .type "list_iterator", data := .fields #[.ref l, .int 0 0] }).push { cls := .type "list", data := .seq #[.ref b0] }).objs.size
        rw [Heap.size_push, esz]
        omega
end
section
variable {X : Cx} {K : PySem.W.Frag}
/-- sum(xss, []): one after the other -/
def rSumL (K : PySem.W.Frag) : List V → Hp → VK → Prop := fun vs H Q => ∃ (a b0 : Addr) (bs : List Addr) (xss : List (List V)), vs = [.ref a, .ref b0] ∧ SqL K H a (bs.map V.ref) ∧ H b0 = some (.lst []) ∧ Paired (fun b xs => H b = some (.lst xs)) bs xss ∧ xss.flatten.length ≤ sizeLine ∧
  ∀ p H', Le H H' → H' p = some (.lst xss.flatten) → Q (.ref p) H'
theorem lists_of {pins : List (Addr × Obj)} {σ : L2.St} {H : Hp} {s : Shared} (I : Inv X pins σ H s) : ∀ {bs : List Addr} {xss : List (List V)}, Paired (fun b xs => H b = some (.lst xs)) bs xss →
    ∃ src : List (List Value), src.length = bs.length ∧ Vals xss.flatten src.flatten ∧ ∀ (j : Nat) (x : List Value), src[j]? = some x → ∃ b, bs[j]? = some b ∧ LAt s.heap b x
  | _, _, .nil => ⟨[], rfl, .nil, fun j x e => by simp at e⟩
  | _, _, .cons (a := b) (b := xs) h t => by
    obtain ⟨src, h1, h2, h3⟩ := lists_of I t
    obtain ⟨z, its, n, r, hl, e⟩ := I.lstM h
    refine ⟨its :: src, by rw [List.length_cons, List.length_cons, h1], by rw [List.flatten_cons, List.flatten_cons]; exact r.append h2, fun j x e' => ?_⟩
    cases j with
    | zero =>
      simp at e'
      subst e'
      exact ⟨b, rfl, n, e⟩
    | succ j =>
      obtain ⟨b', g1, g2⟩ := h3 j x (by simpa using e')
      exact ⟨b', by simpa using g1, g2⟩
theorem call_sumL (hc : X.calm = true) : CallR X (.builtin "sum") (rSumL X.K) := by
  intro pins s σ H xs us Q I r h
  obtain ⟨a, b0, bs, xss, rfl, hq, h0, hp, hz, q⟩ := h
  obtain ⟨u1, u2, rfl, r1, r2⟩ := vals2 r
  cases r1
  cases r2
  obtain ⟨its, rv, pl, hz1⟩ := I.list hq
  have ei := refs_at rv
  subst ei
  obtain ⟨src, s1, s2, s3⟩ := lists_of I hp
  obtain ⟨z, its0, n0, r0, hl0, e0⟩ := I.lstM h0
  cases r0
  have e1 := s2.length
  refine call_sum_lists (src := src) (I.ok.hd hc) (by rw [List.length_map, s1]) (by rw [← e1]; exact hz) pl.isList ⟨n0, e0⟩ (fun j x hj => ?_) fun h' tk p kp hpl hpp => ?_
  · obtain ⟨b, g1, g2⟩ := s3 j x hj
    exact ⟨b, by rw [List.getElem?_map, g1]; rfl, g2⟩
  · have I1 : Inv X pins σ H { s with heap := h', toks := tk } := I.kept kp
    rcases hpp with g | g
    · subst g
      refine ⟨.ref p, H, I1, rfl, q p H (.refl H) ?_⟩
      obtain ⟨n, e⟩ := hpl
      have e3 := kp _ _ e0
      rw [e] at e3
      injection e3 with e3
      injection e3 with _ _ e3 _
      injection e3 with e3 _
      have e4 : src.flatten = [] := by simpa using congrArg Array.toList e3
      rw [e4] at s2
      cases hx : xss.flatten with
      | nil => exact h0
      | cons x r =>
        rw [hx] at s2
        cases s2
    · obtain ⟨n, e⟩ := hpl
      have hn := I.hok.fresh g
      exact ⟨.ref p, L2.upd H p (.lst xss.flatten), I.laid kp g ⟨hz, src.flatten, n, s2, e⟩, rfl, q p _ (.new hn) upd_same⟩
theorem sumLK (e : X.K = K) (hc : X.calm = true) : CallR X (.builtin "sum") (rSumL K) := e ▸ call_sumL hc
end
end Lt

/-! Lt, part F: stars; comprehensions of lists; keys of numbers. -/
namespace Lt
open PySem PySem.Spec PyProof.Rows L2

section
variable {X : Cx} {K : PySem.W.Frag} {e : Expr} {es : List Expr} {te : TE} {t : TA} {p : Pos}
theorem pa_starK (q : X.K = K) (he : PE X e te) (hr : PA X es t) (hs : starEach (.Starred e p :: es) X.env = (true, eval e X.env) :: starEach es X.env := by rfl) : PA X (.Starred e p :: es) (StX.tStar K te t) := q ▸ StX.pa_star he hr hs
end
theorem paired_keep {H H' : Hp} {bs : List Addr} {xss : List (List V)} (k : ∀ b xs, b ∈ bs → H b = some (.lst xs) → H' b = some (.lst xs)) (r : Paired (fun b xs => H b = some (.lst xs)) bs xss) : Paired (fun b xs => H' b = some (.lst xs)) bs xss := by
  induction r with
  | nil => exact .nil
  | cons h t ih => exact .cons (k _ _ (by simp) h) (ih fun b xs hb => k b xs (by simp [hb]))
/-- a comprehension whose items are new lists: each told by its contents -/
theorem lc_lists {J : It} {n : Nat} {G : Hp → Prop} {Y : Nat → Hp → V → Hp → Prop} (wk : Walk J n G Y) {g : TG} {tt : TT} {te : TE} {vs : List Nat} {σ : L2.St} {H1 : Hp} {D' : Addr} {Qd : Hp → Prop} (hD : H1 D' = none) (hn : n ≤ 100000)
    (R : Nat → Hp → List V → Prop) (hT : ∀ i H H' xs, R i H xs → Tups H H' → R i H' xs)
    (hG : ∀ H', Le H1 H' → G H')
    (hs : ∀ i x H' H'', i < n → Le H1 H' → Y i H' x H'' → ∀ (Yk : V → Hp → Prop) (Nk : Hp → Prop), (∀ b xs H4, Le H' H4 → H' D' ≠ none → b ≠ D' → H4 b = some (.lst xs) → R i H4 xs → Yk (.ref b) H4) →
      H' D' ≠ none → g x (wipe σ vs) H'' fun σ2 H2 => wipe σ2 vs = wipe σ vs ∧ tt σ2 H2 fun b H3 => if b = true then te σ2 H3 Yk else Nk H3)
    (hd : ∀ H' bs (xss : List (List V)), Le H1 H' → H' D' = some (.lst (bs.map V.ref)) → xss.length = n → Paired (fun b xs => H' b = some (.lst xs)) bs xss → (∀ i xs, xss[i]? = some xs → R i H' xs) → Qd H') :
    ∃ W : Nat → Nat → Hp → Prop, (∃ m, W 0 m (L2.upd H1 D' (.lst []))) ∧ ∀ i m H, W i m H →
      (J.stop i H ∧ Qd H) ∨ (J.go i H ∧ ∃ Nx : Hp → Prop, (∀ H', Nx H' → ∃ m', m' < m ∧ W (i + 1) m' H') ∧ ∀ x H', J.yld i H x H' → g x (wipe σ vs) H' fun σ2 H2 => wipe σ2 vs = wipe σ vs ∧ tt σ2 H2 fun b H3 =>
        if b = true then te σ2 H3 fun y H4 => ∃ acc, H4 D' = some (.lst acc) ∧ acc.length < sizeLine ∧ Nx (L2.upd H4 D' (.lst (acc ++ [y]))) else Nx H3) := by
  refine lc_it wk (fun i H' => Le H1 H' ∧ ∃ bs, ∃ xss : List (List V), H' D' = some (.lst (bs.map V.ref)) ∧ xss.length = i ∧ (∀ b ∈ bs, b ≠ D') ∧ Paired (fun b xs => H' b = some (.lst xs)) bs xss ∧ ∀ j xs, xss[j]? = some xs → R j H' xs)
    ⟨.new hD, [], [], upd_same, rfl, (fun _ h => nomatch h), .nil, (fun j xs h => by simp at h)⟩ (fun i H' _ h => hG H' h.1) (fun i x H' H'' hi h hy => ?_) (fun H' h => ?_)
  · obtain ⟨l, bs, xss, hx, hl, hne, hp, hr⟩ := h
    have hb := hp.length
    refine hs i x H' H'' hi l hy _ _ (fun b xs H4 l4 _ hbD hb4 hR4 => ?_) (by rw [hx]; exact fun h => nomatch h)
    have tp : Tups H4 (L2.upd H4 D' (.lst (bs.map V.ref ++ [.ref b]))) := tups_upd (l4.lst hx) (fun _ z => nomatch z)
    refine ⟨bs.map V.ref, l4.lst hx, ?_, (l.trans l4).mut hD, bs ++ [b], xss ++ [xs], by rw [upd_same, List.map_append]; rfl, by rw [List.length_append, hl]; rfl, fun b' hb' => ?_, ?_, fun j ys hj => ?_⟩
    · rw [List.length_map]
      exact Nat.lt_of_le_of_lt (by omega : bs.length ≤ 100000) (by rw [sizeLine_eq]; decide)
    · rcases List.mem_append.mp hb' with h | h
      · exact hne b' h
      · rw [List.mem_singleton.mp h]
        exact hbD
    · refine Paired.snoc (paired_keep (fun b' xs' hm e => ?_) hp) ?_
      · rw [upd_ne (hne b' hm)]
        exact l4.lst e
      · show L2.upd H4 D' _ b = _
        rw [upd_ne hbD]
        exact hb4
    · by_cases e : j < xss.length
      · rw [List.getElem?_append_left e] at hj
        exact hT _ _ _ _ (hT _ _ _ _ (hr j ys hj) l4.tups) tp
      · rw [List.getElem?_append_right (by omega)] at hj
        have ej : j - xss.length = 0 := by
          have := (List.getElem?_eq_some_iff.mp hj).1
          simp at this
          omega
        rw [ej] at hj
        simp at hj
        subst hj
        have : j = i := by omega
        subst this
        exact hT _ _ _ _ hR4 tp
  · obtain ⟨l, bs, xss, hx, hl, hne, hp, hr⟩ := h
    exact hd H' bs xss l hx hl hp hr
section
variable {X : Cx} {K : PySem.W.Frag}
theorem catTK (e : X.K = K) : OpR X (binaryOp .Add) (rCatT K) := e ▸ op_catT
end
/-! ### the hash of numbers -/
def hashN (p : List Int) : Int := reduceHash (Builtin.Tuple.tupleHashOf (p.map hashInt))
theorem hashes_nums (w : World) : ∀ p : List Int, NestedKey.hashes w (p.map .num) = p.map hashInt
  | [] => by rw [List.map_nil, NestedKey.hashes]; rfl
  | x :: p => by rw [List.map_cons, NestedKey.hashes, NestedKey.hash, hashes_nums w p]; rfl
theorem hash_nums (w : World) (p : List Int) : (NestedKey.tup (p.map .num)).hash w = hashN p := by
  rw [NestedKey.hash, hashes_nums]
  rfl
end Lt

namespace Lt
open PySem PySem.Spec PyProof.Rows L2
def top (i : Nat) : Stmt := PySem.Challenge.pw_lietable_k03_settled.main.body.getD i (.Pass ⟨0, 0, 0, 0⟩)

/-! the readings made plain -/
local macro_rules | `(tactic| walk_at "rd") => `(tactic| simp (config := {decide := true}) only [tSeq, tAsg, gName, tC, tVar, tOp, tUn, rI0, rI, rU, tLst, tTup, tNil, tCons, tCB, tTest, tB, tIfS, tRet, tNext, tDrop, tAnd, tOr, tNot, tAndV, tOrV, tNotV, tIf, tSl, tPart, tNoPart, L2.start, List.map, List.length_cons, List.length_nil, List.replicate, List.set_cons_succ, List.set_cons_zero, List.cons_append, List.nil_append, List.append_nil, List.getElem?_cons_succ, List.getElem?_cons_zero, exists_eq_left', Option.some.injEq, V.int.injEq, V.str.injEq, V.bl.injEq, V.ref.injEq, List.cons.injEq, exists_and_left, exists_eq_left, true_and, and_true, and_self, and_assoc, rIxS, rMulS, rEq, rNe, scal_int, scal_str, scal_bl, CDiv, CMul, Nat.zero_le, true_or, or_true, Nat.zero_add, Nat.reduceAdd, Nat.reduceSub, Int.zero_add, tCall, tYes, wipe, reduceIte, if_true, if_false, Bool.false_eq_true, tBM, tBM0, rAppend, gSub, rSetL, tNGet, sNPut, tNGet2, tNNew])
/-! the readings made plain, walks and comprehensions too -/
def LoopF (J : It) (g : TG) (tb : TS) (D : Ends) (σ : L2.St) (H1 : Hp) : Prop := ∃ W : Nat → Nat → L2.St → Hp → Prop, (∃ m, W 0 m σ H1) ∧ ∀ i m σ H, W i m σ H →
  (J.stop i H ∧ D.nx σ H) ∨ (J.go i H ∧ ∃ N : L2.St → Hp → Prop, (∀ σ' H', N σ' H' → ∃ m', m' < m ∧ W (i + 1) m' σ' H') ∧ ∀ x H', J.yld i H x H' → g x σ H' fun σ2 H2 => tb { D with nx := N, ct := N, bk := D.nx } σ2 H2)
theorem for_eq {ti : TI} {g : TG} {tb : TS} {D : Ends} {σ : L2.St} {H : Hp} : tFor ti g tb D σ H = ti σ H fun J H1 => LoopF J g tb D σ H1 := rfl
def LoopC (J : It) (g : TG) (tt : TT) (te : TE) (vs : List Nat) (σ : L2.St) (H1 : Hp) (D : Addr) (Q : VK) : Prop := ∃ W : Nat → Nat → Hp → Prop, (∃ m, W 0 m (L2.upd H1 D (.lst []))) ∧ ∀ i m H, W i m H →
  (J.stop i H ∧ Q (.ref D) H) ∨ (J.go i H ∧ ∃ Nx : Hp → Prop, (∀ H', Nx H' → ∃ m', m' < m ∧ W (i + 1) m' H') ∧ ∀ x H', J.yld i H x H' → g x (wipe σ vs) H' fun σ2 H2 => wipe σ2 vs = wipe σ vs ∧ tt σ2 H2 fun b H3 =>
    if b = true then te σ2 H3 fun y H4 => ∃ acc, H4 D = some (.lst acc) ∧ acc.length < sizeLine ∧ Nx (L2.upd H4 D (.lst (acc ++ [y]))) else Nx H3)
theorem lc_eq {wi : TI} {g : TG} {tt : TT} {te : TE} {vs : List Nat} {σ : L2.St} {H : Hp} {Q : VK} : tLc wi g tt te vs σ H Q = wi σ H fun J H1 => ∀ D, H1 D = none → LoopC J g tt te vs σ H1 D Q := rfl
local macro_rules | `(tactic| walk_at "rg") => `(tactic| simp (config := {decide := true}) only [for_eq, lc_eq, iRng1, iRng2, iList, iTup, iNKeys, List.getElem?_nil, List.length_nil, StX.tStar, rCatT, gTup, gCons, gNil, tSeq, tAsg, gName, tC, tVar, tOp, tUn, rI0, rI, rU, tLst, tTup, tNil, tCons, tCB, tTest, tB, tIfS, tRet, tNext, tDrop, tAnd, tOr, tNot, tAndV, tOrV, tNotV, tIf, tSl, tPart, tNoPart, L2.start, List.map, List.length_cons, List.length_nil, List.replicate, List.set_cons_succ, List.set_cons_zero, List.cons_append, List.nil_append, List.append_nil, List.getElem?_cons_succ, List.getElem?_cons_zero, exists_eq_left', Option.some.injEq, V.int.injEq, V.str.injEq, V.bl.injEq, V.ref.injEq, List.cons.injEq, exists_and_left, exists_eq_left, true_and, and_true, and_self, and_assoc, rIxS, rMulS, rEq, rNe, scal_int, scal_str, scal_bl, CDiv, CMul, Nat.zero_le, true_or, or_true, Nat.zero_add, Nat.reduceAdd, Nat.reduceSub, Int.zero_add, tCall, tYes, wipe, reduceIte, if_true, if_false, Bool.false_eq_true, tBM, tBM0, rAppend, gSub, rSetL, tNGet, sNPut, tNGet2, tNNew])
/-! ### votes as plain functions -/
def voteM (ss : List (Option Str)) : Option Str := match ss.find? (fun x => decide (ss.length < 2 * ss.count x)) with
  | some x => x
  | none => none
theorem count_two {α : Type} [BEq α] [LawfulBEq α] {x y : α} (h : x ≠ y) : ∀ l : List α, l.count x + l.count y ≤ l.length
  | [] => by simp
  | a :: l => by
    have ih := count_two h l
    rw [List.count_cons, List.count_cons, List.length_cons]
    by_cases e : a = x
    · have e2 : ¬ a = y := fun z => h (e.symm.trans z)
      have b1 : (a == x) = true := by simp [e]
      have b2 : (a == y) = false := by simp [e2]
      rw [b1, b2]
      simp
      omega
    · by_cases e2 : a = y
      · have b1 : (a == x) = false := by simp [e]
        have b2 : (a == y) = true := by simp [e2]
        rw [b1, b2]
        simp
        omega
      · have b1 : (a == x) = false := by simp [e]
        have b2 : (a == y) = false := by simp [e2]
        rw [b1, b2]
        simp
        omega
theorem voteM_of {ss : List (Option Str)} {x : Option Str} (hx : ss.length < 2 * ss.count x) : voteM ss = x := by
  have hm : x ∈ ss := List.count_pos_iff.mp (by omega)
  unfold voteM
  cases q : ss.find? (fun x => decide (ss.length < 2 * ss.count x)) with
  | none =>
    have := List.find?_eq_none.mp q x hm
    simp only [decide_eq_true_eq] at this
    exact absurd hx this
  | some y =>
    have hy := List.find?_some q
    simp only [decide_eq_true_eq] at hy
    show y = x
    by_cases e : x = y
    · exact e.symm
    · have := count_two e ss
      omega
theorem voteM_none {ss : List (Option Str)} (h : ∀ x ∈ ss, ¬ ss.length < 2 * ss.count x) : voteM ss = none := by
  unfold voteM
  rw [List.find?_eq_none.mpr (fun x hx => by simpa using h x hx)]
theorem voteM_mem {ss : List (Option Str)} {x : Str} (h : voteM ss = some x) : some x ∈ ss := by
  unfold voteM at h
  cases q : ss.find? (fun x => decide (ss.length < 2 * ss.count x)) with
  | none => rw [q] at h; cases h
  | some y =>
    rw [q] at h
    have h : y = some x := h
    rw [← h]
    exact List.mem_of_find?_eq_some q
/-- what vote has counted -/
structure Told (l : List (Option Str)) (kvs : List (Option Str × V)) : Prop where
  val : ∀ k, valV kvs k = if l.count k = 0 then none else some (.int (l.count k : Int))
  len : kvs.length ≤ l.length
theorem Told.nil : Told [] [] := ⟨fun k => by simp [valV], Nat.le_refl _⟩
theorem Told.step {l : List (Option Str)} {kvs : List (Option Str × V)} (t : Told l kvs) (y : Option Str) : Told (l ++ [y]) (putK kvs y (.int ((l.count y : Int) + 1))) := by
  refine ⟨fun k => ?_, ?_⟩
  · rw [valV_put, t.val k, List.count_append]
    by_cases e : k = y
    · subst e
      simp
    · rw [if_neg e]
      have : List.count k [y] = 0 := by
        simp [List.count_cons, Ne.symm e]
      rw [this]
      simp
  · have := length_putK kvs y (.int ((l.count y : Int) + 1))
    have := t.len
    simp
    omega
def spVote (K : PySem.W.Frag) : Sp := fun vs H Q _ => ∃ (a : Addr) (ss : List (Option Str)), vs = [.ref a] ∧ SqL K H a (ss.map sg) ∧ ss.length ≤ 1000 ∧ ∀ H', Le H H' → Q (sg (voteM ss)) H'
theorem cutV_mem {xs : List V} {lo hi : Option Int} {x : V} (h : x ∈ cutV xs lo hi) : x ∈ xs := by
  unfold cutV at h
  exact List.mem_of_mem_drop (List.mem_of_mem_take h)
theorem strs_sg (ss : List Str) : ss.map V.str = (ss.map some).map sg := by rw [List.map_map]; rfl
/-! ### paths as plain functions -/
def pk (p : List Int) : D := .tup (p.map .num)
theorem nums_inj : ∀ {p q : List Int}, p.map NestedKey.num = q.map .num → p = q
  | [], [], _ => rfl
  | [], _ :: _, h => by simp at h
  | _ :: _, [], h => by simp at h
  | x :: p, y :: q, h => by
    rw [List.map_cons, List.map_cons] at h
    injection h with h1 h2
    injection h1 with h1
    rw [h1, nums_inj h2]
theorem pk_inj {p q : List Int} (h : pk p = pk q) : p = q := by
  injection h with h
  exact nums_inj h
theorem pk_at {H : Hp} {b : Addr} {p : List Int} (h : H b = some (.tup (p.map .int))) : At H (pk p) (.ref b) := At.tup h (ats_ints p)
theorem pk_of {H : Hp} {v : V} {p : List Int} (h : At H (pk p) v) : ∃ b, v = .ref b ∧ H b = some (.tup (p.map .int)) := by
  obtain ⟨b, xs, e, hb, hs⟩ := h.of_tup
  exact ⟨b, e, by rw [hb, hs.ints]⟩
theorem nums_depth : ∀ p : List Int, NestedKey.depthAll (p.map .num) ≤ 1
  | [] => by rw [List.map_nil, NestedKey.depthAll]; exact Nat.zero_le _
  | x :: p => by
    rw [List.map_cons, NestedKey.depthAll, NestedKey.depth]
    have := nums_depth p
    omega
theorem pk_depth (p : List Int) : (pk p).depth ≤ 8 := by
  unfold pk
  rw [NestedKey.depth]
  have := nums_depth p
  omega
/-- the hearers of a path -/
def hear (n : Nat) (p : List Int) : List Int := ((List.range n).map Int.ofNat).filter fun x => decide (x ∉ p)
def growM (n : Nat) (ps : List (List Int)) : List (List Int) := (ps.map fun p => (hear n p).map fun h => p ++ [h]).flatten
def lvlM (n : Nat) : Nat → List (List Int)
  | 0 => [[0]]
  | k + 1 => growM n (lvlM n k)
def pathsM (n k : Nat) : List (List Int) := (lvlM n (min k (n - 1) - 1)).filter fun p => decide (p.length = k)
/-- a path among n -/
structure IsP (n : Nat) (p : List Int) : Prop where
  hd : p.head? = some 0
  nd : p.Nodup
  mem : ∀ x ∈ p, 0 ≤ x ∧ x < n
theorem mem_hear {n : Nat} {p : List Int} {x : Int} : x ∈ hear n p ↔ (0 ≤ x ∧ x < n) ∧ x ∉ p := by
  unfold hear
  rw [List.mem_filter, List.mem_map, decide_eq_true_eq]
  refine ⟨fun ⟨⟨i, hi, e⟩, h⟩ => ⟨?_, h⟩, fun ⟨⟨h0, h1⟩, h⟩ => ⟨⟨x.toNat, List.mem_range.mpr (by omega), Int.toNat_of_nonneg h0⟩, h⟩⟩
  have := List.mem_range.mp hi
  subst e
  exact ⟨Int.natCast_nonneg i, Int.ofNat_lt.mpr this⟩
theorem hear_length (n : Nat) (p : List Int) : (hear n p).length ≤ n := by
  unfold hear
  refine Nat.le_trans (List.length_filter_le _ _) ?_
  rw [List.length_map, List.length_range]
  exact Nat.le_refl _
theorem IsP.add {n : Nat} {p : List Int} {x : Int} (h : IsP n p) (hx : x ∈ hear n p) : IsP n (p ++ [x]) := by
  obtain ⟨hr, hn⟩ := mem_hear.mp hx
  refine ⟨?_, ?_, fun y hy => ?_⟩
  · cases p with
    | nil => have := h.hd; simp at this
    | cons a t => exact h.hd
  · rw [List.nodup_append]
    refine ⟨h.nd, List.nodup_cons.mpr ⟨by simp, List.nodup_nil⟩, fun a ha b hb e => ?_⟩
    rw [List.mem_singleton] at hb
    subst hb
    exact hn (e ▸ ha)
  · rcases List.mem_append.mp hy with h' | h'
    · exact h.mem y h'
    · rw [List.mem_singleton.mp h']
      exact hr
theorem IsP.pos {n : Nat} {p : List Int} (h : IsP n p) : 1 ≤ p.length := by
  cases p with
  | nil => have := h.hd; simp at this
  | cons a t => simp
theorem IsP.n_pos {n : Nat} {p : List Int} (h : IsP n p) : 1 ≤ n := by
  cases p with
  | nil => have := h.hd; simp at this
  | cons a t =>
    have := h.mem a (by simp)
    omega
theorem IsP.zero {n : Nat} (h : 1 ≤ n) : IsP n [0] := ⟨rfl, by simp, fun x hx => by rw [List.mem_singleton.mp hx]; omega⟩
theorem mem_grow {n : Nat} {ps : List (List Int)} {p : List Int} : p ∈ growM n ps ↔ ∃ q ∈ ps, ∃ x ∈ hear n q, p = q ++ [x] := by
  unfold growM
  rw [List.mem_flatten]
  refine ⟨fun ⟨l, hl, hp⟩ => ?_, fun ⟨q, hq, x, hx, e⟩ => ⟨_, List.mem_map.mpr ⟨q, hq, rfl⟩, List.mem_map.mpr ⟨x, hx, e.symm⟩⟩⟩
  obtain ⟨q, hq, rfl⟩ := List.mem_map.mp hl
  obtain ⟨x, hx, e⟩ := List.mem_map.mp hp
  exact ⟨q, hq, x, hx, e.symm⟩
theorem mem_lvl {n : Nat} (hn : 1 ≤ n) : ∀ {k : Nat} {p : List Int}, p ∈ lvlM n k ↔ IsP n p ∧ p.length = k + 1
  | 0, p => by
    rw [lvlM, List.mem_singleton]
    refine ⟨fun e => e ▸ ⟨.zero hn, rfl⟩, fun ⟨h, hl⟩ => ?_⟩
    cases p with
    | nil => simp at hl
    | cons a t =>
      cases t with
      | nil =>
        have := h.hd
        simp at this
        rw [this]
      | cons b t => simp at hl
  | k + 1, p => by
    rw [lvlM, mem_grow]
    refine ⟨fun ⟨q, hq, x, hx, e⟩ => ?_, fun ⟨h, hl⟩ => ?_⟩
    · obtain ⟨h1, h2⟩ := (mem_lvl hn).mp hq
      subst e
      exact ⟨h1.add hx, by rw [List.length_append, h2]; rfl⟩
    · have hne : p ≠ [] := fun e => by subst e; simp at hl
      have e := List.dropLast_concat_getLast hne
      generalize hq : p.dropLast = q at e
      generalize hx : p.getLast hne = x at e
      subst e
      have hql : q.length = k + 1 := by
        rw [List.length_append] at hl
        simp at hl
        exact hl
      have hnd := List.nodup_append.mp h.nd
      have hq' : IsP n q := by
        refine ⟨?_, hnd.1, fun y hy => h.mem y (List.mem_append_left _ hy)⟩
        have := h.hd
        cases q with
        | nil => simp at hql
        | cons a t => exact this
      refine ⟨q, (mem_lvl hn).mpr ⟨hq', hql⟩, x, mem_hear.mpr ⟨h.mem x (by simp), fun hm => hnd.2.2 x hm x (by simp) rfl⟩, rfl⟩
theorem mem_paths {n k : Nat} (hn : 2 ≤ n) (hk : 1 ≤ k) {p : List Int} : p ∈ pathsM n k ↔ IsP n p ∧ p.length = k ∧ k ≤ n - 1 := by
  unfold pathsM
  rw [List.mem_filter, decide_eq_true_eq, mem_lvl (by omega)]
  refine ⟨fun ⟨⟨h1, h2⟩, h3⟩ => ⟨h1, h3, by omega⟩, fun ⟨h1, h2, h3⟩ => ⟨⟨h1, by omega⟩, h2⟩⟩
theorem nodup_len : ∀ (k : Nat) (p : List Int), p.Nodup → (∀ x ∈ p, 0 ≤ x ∧ x < k) → p.length ≤ k
  | 0, [], _, _ => Nat.le_refl _
  | 0, a :: t, _, h => by have := h a (by simp); omega
  | k + 1, p, nd, h => by
    have q := nodup_len k (p.erase k) (nd.erase (k : Int)) fun x hx => by
      have h1 := (nd.mem_erase_iff).mp hx
      have h2 := h x h1.2
      have : x ≠ k := h1.1
      omega
    have := List.length_erase (a := (k : Int)) (l := p)
    split at this <;> omega
/-! ### small things on lists -/
theorem inV_ints {x : Int} : ∀ p : List Int, inV (.int x) (p.map .int) = decide (x ∈ p)
  | [] => rfl
  | a :: p => by
    have ih := inV_ints (x := x) p
    unfold inV at ih ⊢
    rw [List.map_cons, List.any_cons, ih]
    have e : (a == x) = decide (x = a) := by
      by_cases h : x = a
      · simp [h]
      · simp [h, Ne.symm h]
    simp [eqV, e]
theorem ints_flat (p : List Int) : (p.map V.int).all flatV = true := by
  rw [List.all_map, List.all_eq_true]
  intro o _
  rfl
theorem fm_if {α β : Type} (P : α → Prop) [DecidablePred P] (g : α → β) : ∀ l : List α, l.filterMap (fun i => if P i then some (g i) else none) = (l.filter fun i => decide (P i)).map g
  | [] => rfl
  | a :: l => by
    rw [List.filterMap_cons, List.filter_cons, fm_if P g l]
    by_cases h : P a
    · rw [if_pos h, decide_eq_true h]
      rfl
    · rw [if_neg h, decide_eq_false h]
      rfl
theorem fm_get {α β : Type} (g : α → Option β) : ∀ l : List α, (List.range l.length).filterMap (fun i => l[i]?.bind g) = l.filterMap g
  | [] => rfl
  | a :: l => by
    rw [List.length_cons, List.range_succ_eq_map, List.filterMap_cons, List.filterMap_cons, List.filterMap_map]
    have e : ((fun i => (a :: l)[i]?.bind g) ∘ Nat.succ) = fun i => l[i]?.bind g := by
      funext i
      simp
    rw [e, fm_get g l]
    rfl
theorem fm_get' {α β : Type} (g : α → Option β) {l : List α} {n : Nat} (h : n = l.length) : (List.range n).filterMap (fun i => l[i]?.bind g) = l.filterMap g := by
  subst h
  exact fm_get g l
theorem ats_flat {H : Hp} : ∀ {dss : List (List D)} {xss : List (List V)}, xss.length = dss.length → (∀ (j : Nat) (xs : List V), xss[j]? = some xs → Ats H (dss[j]?.getD []) xs) → Ats H dss.flatten xss.flatten
  | [], [], _, _ => Ats.nil
  | d :: dss, xs :: xss, hl, h => by
    rw [List.flatten_cons, List.flatten_cons]
    exact Ats.app (h 0 xs rfl) (ats_flat (by simpa using hl) fun j ys hj => by simpa using h (j + 1) ys (by simpa using hj))
  | [], _ :: _, hl, _ => by simp at hl
  | _ :: _, [], hl, _ => by simp at hl
theorem grow_length (n : Nat) : ∀ ps : List (List Int), (growM n ps).length ≤ ps.length * n
  | [] => by simp [growM]
  | p :: ps => by
    have := grow_length n ps
    have h2 := hear_length n p
    unfold growM at this ⊢
    rw [List.map_cons, List.flatten_cons, List.length_append, List.length_map, List.length_cons, Nat.add_mul]
    omega
theorem lvl_length (n : Nat) : ∀ k : Nat, (lvlM n k).length ≤ n ^ k
  | 0 => by rw [lvlM]; exact Nat.le_refl _
  | k + 1 => by
    rw [lvlM]
    refine Nat.le_trans (grow_length n _) ?_
    rw [Nat.pow_succ]
    exact Nat.mul_le_mul_right n (lvl_length n k)
theorem lvl_small {n k : Nat} (hn : n ≤ 10) (hk : k ≤ 2) : (lvlM n k).length ≤ 100 := by
  refine Nat.le_trans (lvl_length n k) (Nat.le_trans (Nat.pow_le_pow_left hn k) ?_)
  exact Nat.le_trans (Nat.pow_le_pow_right (by decide) hk) (by decide)
theorem paths_length {n k : Nat} (hn : n ≤ 10) (hk : k ≤ 3) : (pathsM n k).length ≤ 100 := by
  unfold pathsM
  exact Nat.le_trans (List.length_filter_le _ _) (lvl_small hn (by omega))
theorem hear_fm (n : Nat) (p : List Int) : (List.range n).filterMap (fun i : Nat => if (i : Int) ∉ p then some (NestedKey.num (i : Int)) else none) = (hear n p).map .num := by
  rw [fm_if (fun i : Nat => (i : Int) ∉ p) (fun i : Nat => NestedKey.num (i : Int))]
  unfold hear
  rw [List.filter_map, List.map_map]
  rfl
theorem hear_fm2 (n : Nat) (p : List Int) : (List.range n).filterMap (fun i : Nat => if (i : Int) ∉ p then some (pk (p ++ [(i : Int)])) else none) = (hear n p).map fun h => pk (p ++ [h]) := by
  rw [fm_if (fun i : Nat => (i : Int) ∉ p) (fun i : Nat => pk (p ++ [(i : Int)]))]
  unfold hear
  rw [List.filter_map, List.map_map]
  rfl
theorem dec_int {i j : Int} : decide (V.int i = V.int j) = decide (i = j) := decide_eq_decide.mpr ⟨fun h => by injection h, fun h => by rw [h]⟩
theorem lvl_flat (n i : Nat) : ((lvlM n i).map fun p => (hear n p).map fun h => pk (p ++ [h])).flatten = (lvlM n (i + 1)).map pk := by
  rw [lvlM, growM, List.map_flatten, List.map_map]
  congr 1
  refine List.map_congr_left fun p _ => ?_
  show _ = List.map pk (List.map _ _)
  rw [List.map_map]
  rfl
/-! ### what a hand settles on -/
def settM (tf : List Int → Option Str) (n : Nat) (hand : Int) : Nat → List Int → Option Str
  | 0, p => tf p
  | d + 1, p => voteM (tf p :: ((hear n p).filter fun o => decide (o ≠ hand)).map fun o => settM tf n hand d (p ++ [o]))
/-- the dict at t tells of each path without the hand -/
def Hold (P : Program) (w : World) (H : Hp) (t : Addr) (n m : Nat) (hand : Int) (tf : List Int → Option Str) : Prop :=
  ∃ kvs, ND P w H t kvs ∧ ∀ q, IsP n q → hand ∉ q → q.length ≤ m + 1 → valV kvs (pk q) = some (sg (tf q))
theorem Hold.le {P : Program} {w : World} {H H' : Hp} {t : Addr} {n m : Nat} {hand : Int} {tf : List Int → Option Str} (h : Hold P w H t n m hand tf) (l : Le H H') : Hold P w H' t n m hand tf :=
  let ⟨kvs, e, k⟩ := h; ⟨kvs, e.le l, k⟩
theorem Hold.dg {P : Program} {w : World} {H : Hp} {t b : Addr} {n m : Nat} {hand : Int} {tf : List Int → Option Str} (h : Hold P w H t n m hand tf) {p : List Int} (hb : H b = some (.tup (p.map .int))) (hp : IsP n p) (hh : hand ∉ p) (hl : p.length ≤ m + 1) : DG P w H t (.ref b) (some (sg (tf p))) :=
  let ⟨kvs, e, k⟩ := h; .inr ⟨kvs, pk p, b, e, rfl, pk_at hb, pk_depth p, (k p hp hh hl).symm⟩
def spSettled (P : Program) (w : World) (E : Nat) : Sp := fun vs H Q _ => ∃ (n m d : Nat) (t b : Addr) (hand : Int) (p : List Int) (tf : List Int → Option Str), d < E ∧ vs = [.int n, .int m, .ref t, .int hand, .ref b] ∧ n ≤ 100 ∧ H b = some (.tup (p.map .int)) ∧ IsP n p ∧ hand ∉ p ∧ p.length + d = m + 1 ∧
  Hold P w H t n m hand tf ∧ ∀ H', Le H H' → Q (sg (settM tf n hand d p)) H'
theorem spSettled_len {P : Program} {w : World} {E : Nat} {vs : List V} {H : Hp} {Q : VK} {X : XK} (h : spSettled P w E vs H Q X) : vs.length = 5 := by
  obtain ⟨_, _, _, _, _, _, _, _, _, e, _⟩ := h
  rw [e]
  rfl
/-- what is heard of the first i -/
def saidM (tf : List Int → Option Str) (n : Nat) (hand : Int) (d : Nat) (p : List Int) (os : List Int) : List (Option Str) := (os.filter fun o => decide (o ≠ hand)).map fun o => settM tf n hand d (p ++ [o])
theorem said_snoc (tf : List Int → Option Str) (n : Nat) (hand : Int) (d : Nat) (p : List Int) (os : List Int) (x : Int) : saidM tf n hand d p (os ++ [x]) = if x = hand then saidM tf n hand d p os else saidM tf n hand d p os ++ [settM tf n hand d (p ++ [x])] := by
  unfold saidM
  rw [List.filter_append, List.map_append]
  by_cases h : x = hand
  · rw [if_pos h]
    simp [h]
  · rw [if_neg h]
    simp [h]
theorem said_length (tf : List Int → Option Str) (n : Nat) (hand : Int) (d : Nat) (p : List Int) (os : List Int) : (saidM tf n hand d p os).length ≤ os.length := by
  unfold saidM
  rw [List.length_map]
  exact List.length_filter_le _ _
theorem others_fm (n : Nat) (p : List Int) (hand : Int) : (List.range n).filterMap (fun i : Nat => if (i : Int) ∉ p ∧ (i : Int) ≠ hand then some (NestedKey.num (i : Int)) else none) = ((hear n p).filter fun o => decide (o ≠ hand)).map .num := by
  rw [fm_if (fun i : Nat => (i : Int) ∉ p ∧ (i : Int) ≠ hand) (fun i : Nat => NestedKey.num (i : Int))]
  unfold hear
  rw [List.filter_filter, List.filter_map, List.map_map]
  congr 1
  refine List.filter_congr fun i _ => ?_
  show _ = (decide ((i : Int) ≠ hand) && decide ((i : Int) ∉ p))
  rw [Bool.and_comm, Bool.decide_and]
section
variable {P : Program} {w : World} {K : PySem.W.Frag} {mg : Str → Option Value} {base : Heap}
/-- so many hands, so many rounds -/
structure TabOk (n m : Nat) : Prop where
  n2 : 2 ≤ n
  n10 : n ≤ 10
  m2 : m ≤ 2
  n8 : m = 2 → n ≤ 8
def spTable : Sp := fun vs H Q _ => ∃ (c : Int), vs = [.int c] ∧ ∀ p H' (n m : Nat), Le H H' → H' p = some (.tup [.int n, .int m]) → TabOk n m → Q (.ref p) H'
abbrev s_law_table : Stmt := top 8
theorem sc_law_table : FnScope ["_law_cell", "_law_most"] ["_law_cell"] (defScope s_law_table) := ⟨rfl, rfl, rfl, by decide +kernel, rfl, by decide +kernel, by decide +kernel⟩
theorem tab6 : ∀ i : Nat, i < 6 → ∃ m : Nat, ([V.int 1, .int 2, .int 0, .int 1, .int 2, .int 2] : List V)[i]? = some (.int m) ∧ m ≤ 2 := by
  intro i hi
  match i, hi with
  | 0, _ => exact ⟨1, rfl, by decide⟩
  | 1, _ => exact ⟨2, rfl, by decide⟩
  | 2, _ => exact ⟨0, rfl, by decide⟩
  | 3, _ => exact ⟨1, rfl, by decide⟩
  | 4, _ => exact ⟨2, rfl, by decide⟩
  | 5, _ => exact ⟨2, rfl, by decide⟩
theorem tab3 : ∀ i : Nat, i ≤ 2 → ∃ k : Int, ([V.int 9, .int 9, .int 7] : List V)[i]? = some (.int k) ∧ 7 ≤ k ∧ k ≤ 9 ∧ (i = 2 → k = 7) := by
  intro i hi
  match i, hi with
  | 0, _ => exact ⟨9, rfl, by decide, by decide, by decide⟩
  | 1, _ => exact ⟨9, rfl, by decide, by decide, by decide⟩
  | 2, _ => exact ⟨7, rfl, by decide, by decide, by decide⟩
theorem ok_law_table {f : Addr} {fd : FuncData} (F : Fun K "_law_table" "_law_table" s_law_table f fd) (T : Bt mg) : FnOk P w K mg base CX0 1 f fd ["_law_cell"] spTable := by
  refine F.ok sc_law_table (fun vs H Q E h => ?_) (fun cdv A outer s H vs Q E hr h => ?_)
  · obtain ⟨c, rfl, _⟩ := h
    rfl
  · obtain ⟨c, rfl, q⟩ := h
    refine ⟨_, (pss_cons (ps_set (i := 1) sc_law_table.nd rfl (Or.inl rfl) (pe_ix (ix_listK (K := K) rfl) (pe_lst (pa_cons pe_int (pa_cons pe_int (pa_cons pe_int (pa_cons pe_int (pa_cons pe_int (pa_cons pe_int pa_nil))))))) (pe_op op_mod (pv 0) pe_int) (fun _ _ => rfl)))
        (pss_one (ps_ret (pe_tup (pa_cons (pe_op op_add pe_int (pe_op op_mod (pe_op op_fdiv (pv 0) pe_int) (pe_ix (ix_listK (K := K) rfl) (pe_lst (pa_cons pe_int (pa_cons pe_int (pa_cons pe_int pa_nil)))) (pv 1) (fun _ _ => rfl)))) (pa_cons (pv 1) pa_nil)))))), ?_⟩
    walk_at "rd"
    intro p1 hp1
    have c6 : 0 ≤ c % 6 ∧ c % 6 < 6 := by omega
    obtain ⟨m, hm, m2⟩ := tab6 (c % 6).toNat (by omega)
    refine ⟨p1, _, _, _, rfl, rfl, .of upd_same, at_of (by omega) hm, fun p2 hp2 => ?_⟩
    obtain ⟨k, hk, k1, k2, k3⟩ := tab3 m m2
    refine ⟨p2, _, _, _, rfl, rfl, .of upd_same, at_of (j := m) (by omega) hk, k, rfl, by omega, fun p3 hp3 => ?_⟩
    have d0 : 0 ≤ c / 6 % k := Int.emod_nonneg _ (by omega)
    have d1 : c / 6 % k < k := Int.emod_lt_of_pos _ (by omega)
    refine q p3 _ (2 + c / 6 % k).toNat m (((Le.new hp1).trans (.new hp2)).trans (.new hp3)) ?_ ⟨by omega, by omega, m2, fun e => ?_⟩
    · rw [upd_same, Int.toNat_of_nonneg (by omega)]
    · have := k3 e
      omega
def spHear : Sp := fun vs H Q _ => ∃ (n : Nat) (p : List Int) (b : Addr), vs = [.int n, .ref b] ∧ H b = some (.tup (p.map .int)) ∧ n ≤ 100 ∧ ∀ d H', H d = none → Le H H' → H' d = some (.lst ((hear n p).map .int)) → Q (.ref d) H'
abbrev s_hearers : Stmt := top 1
abbrev n_hearers : List Str := ["hands", "path", "hand"]
theorem sc_hearers : FnScope ["hands", "path", "hand"] ["hands", "path"] (defScope s_hearers) := ⟨rfl, rfl, rfl, by decide +kernel, rfl, by decide +kernel, by decide +kernel⟩
theorem ok_hearers {f : Addr} {fd : FuncData} (F : Fun K "hearers" "hearers" s_hearers f fd) (T : Bt mg) : FnOk P w K mg base CX0 1 f fd ["hands", "path"] spHear := by
  refine F.ok sc_hearers (fun vs H Q E h => ?_) (fun cdv A outer s H vs Q E hr h => ?_)
  · obtain ⟨n, p, b, rfl, _⟩ := h
    rfl
  · obtain ⟨n, p, b, rfl, hb, hn, q⟩ := h
    refine ⟨_, (pss_one (ps_ret (pe_lc (own := [("hand", 2)]) (g := gName 2) rfl sc_hearers.nd (pi_range1 (by rfl) T.b_range (pa_cons (pv 0) pa_nil)) (blkOk_by (N := n_hearers) (sc := defScope s_hearers) (own := [("hand", 2)]) (by decide +kernel)) (fun _ _ _ _ _ => (pg_name (i := 2) sc_hearers.nd rfl (Or.inl rfl))) (fun _ _ _ _ _ => pts_one (pt_cmpR (notIn_seqK (K := K) rfl) (pv 2) (pv 1) rfl)) (fun _ _ _ _ _ => (pv 2))))), ?_⟩
    walk_at "rg"
    refine ⟨by omega, by omega, fun D hD => ?_⟩
    refine lc_data walk_range hD (by omega) (fun i : Nat => if (i : Int) ∉ p then some (.num (i : Int)) else none) (fun _ _ => True.intro) (fun i x H' H'' hi l hy Yk Nk kY kN => ?_) (fun H' ys l hys ha => ?_)
    · obtain ⟨rfl, rfl⟩ := hy
      refine ⟨rfl, ?_⟩
      walk_at "rg"
      refine ⟨b, _, rfl, .inr (.of (l.tup hb)), rfl, ints_flat p, ?_⟩
      rw [inV_ints]
      refine ⟨_, rfl, ?_⟩
      by_cases hc : (i : Int) ∈ p
      · rw [decide_eq_true hc]
        exact kN _ (.refl _) (if_neg (fun h => h hc))
      · rw [decide_eq_false hc]
        exact kY _ _ _ (.refl _) (if_pos hc) At.int
    · rw [Int.toNat_natCast, hear_fm] at ha
      rw [ha.ints] at hys
      exact q D H' hD l hys
def spPaths : Sp := fun vs H Q _ => ∃ (n k : Nat), vs = [.int n, .int k] ∧ 2 ≤ n ∧ n ≤ 10 ∧ 1 ≤ k ∧ k ≤ 3 ∧ ∀ d H' ys, H d = none → Le H H' → H' d = some (.lst ys) → Ats H' ((pathsM n k).map pk) ys → Q (.ref d) H'
abbrev s_law_paths : Stmt := top 9
abbrev n_law_paths : List Str := ["_law_hands", "_law_size", "_law_found", "_law_turn", "_law_path", "_law_hand"]
theorem sc_law_paths : FnScope ["_law_hands", "_law_size", "_law_found", "_law_turn", "_law_path", "_law_hand"] ["_law_hands", "_law_size"] (defScope s_law_paths) := ⟨rfl, rfl, rfl, by decide +kernel, rfl, by decide +kernel, by decide +kernel⟩
theorem ok_law_paths {f : Addr} {fd : FuncData} (F : Fun K "_law_paths" "_law_paths" s_law_paths f fd) (T : Bt mg) : FnOk P w K mg base CX0 1 f fd ["_law_hands", "_law_size"] spPaths := by
  refine F.ok sc_law_paths (fun vs H Q E h => ?_) (fun cdv A outer s H vs Q E hr h => ?_)
  · obtain ⟨n, k, rfl, _⟩ := h
    rfl
  · obtain ⟨n, k, rfl, hn2, hn10, hk1, hk3, q⟩ := h
    refine ⟨_, (pss_cons (ps_set (i := 2) sc_law_paths.nd rfl (Or.inl rfl) (pe_lst (pa_cons (pe_tup (pa_cons pe_int pa_nil)) pa_nil)))
        (pss_cons (ps_for PassesOwn.never rfl (pi_range1 (by rfl) T.b_range (pa_cons (pe_op op_sub (pe_callB (call_min2 rfl) (by rfl) T.b_min bb_min (pa_cons (pv 1) (pa_cons (pe_op op_sub (pv 0) pe_int) pa_nil))) pe_int) pa_nil)) (pg_name (i := 3) sc_law_paths.nd rfl (Or.inl rfl))
          (pss_one (ps_set (i := 2) sc_law_paths.nd rfl (Or.inl rfl) (pe_callB (sumLK (K := K) rfl rfl) (by rfl) T.b_sum bb_sum (pa_cons (pe_lc (own := [("_law_path", 4)]) (g := gName 4) rfl sc_law_paths.nd (pi_listK (K := K) rfl (pv 2)) (blkOk_by (N := n_law_paths) (sc := defScope s_law_paths) (own := [("_law_path", 4)]) (by decide +kernel)) (fun _ _ _ _ _ => (pg_name (i := 4) sc_law_paths.nd rfl (Or.inr rfl))) (fun _ _ _ _ _ => pts_nil) (fun _ _ _ _ _ => (pe_lc (own := [("_law_hand", 5)]) (g := gName 5) rfl sc_law_paths.nd (pi_range1 (by rfl) T.b_range (pa_cons (pv 0) pa_nil)) (blkOk_by (own := [("_law_hand", 5)]) (by kernel_rfl)) (fun _ _ _ _ _ => (pg_name (i := 5) sc_law_paths.nd rfl (Or.inl rfl))) (fun _ _ _ _ _ => pts_one (pt_cmpR (notIn_seqK (K := K) rfl) (pv 5) (pv 4) rfl)) (fun _ _ _ _ _ => (pe_op (catTK (K := K) rfl) (pv 4) (pe_tup (pa_cons (pv 5) pa_nil))))))) (pa_cons (pe_lst pa_nil) pa_nil))))))
        (pss_one (ps_ret (pe_lc (own := [("_law_path", 4)]) (g := gName 4) rfl sc_law_paths.nd (pi_listK (K := K) rfl (pv 2)) (blkOk_by (N := n_law_paths) (sc := defScope s_law_paths) (own := [("_law_path", 4)]) (by decide +kernel)) (fun _ _ _ _ _ => (pg_name (i := 4) sc_law_paths.nd rfl (Or.inl rfl))) (fun _ _ _ _ _ => pts_one (pt_cmpR op_eq (pe_callB (len_seqK (K := K) rfl) (by rfl) T.b_len bb_len (pa_cons (pv 4) pa_nil)) (pv 1) (nomark _))) (fun _ _ _ _ _ => (pv 4))))))), ?_⟩
    walk_at "rg"
    intro p1 hp1 p2 hp2
    refine ⟨by split <;> omega, by split <;> omega, ?_⟩
    have hcnt : ((if (n : Int) - 1 < k then (n : Int) - 1 else k) - 1).toNat = min k (n - 1) - 1 := by split <;> omega
    rw [hcnt]
    have h12 : p1 ≠ p2 := fun e => by
      subst e
      rw [upd_same] at hp2
      cases hp2
    refine for_it walk_range (fun i σ H' => ∃ (a : Addr) (v3 : Option V) (ys : List V), σ = [some (.int n), some (.int k), some (.ref a), v3, none, none] ∧ Le H H' ∧ H' a = some (.lst ys) ∧ Ats H' ((lvlM n i).map pk) ys)
      ⟨_, _, _, rfl, (Le.new hp1).trans (.new hp2), upd_same, Ats.cons (pk_at (p := [0]) (by rw [upd_ne h12]; exact upd_same)) Ats.nil⟩ (fun _ _ _ _ _ => True.intro) ?_ ?_
    · rintro i x σ H1 H2 hi ⟨a, v3, ys, rfl, l, ha, hA⟩ ⟨rfl, rfl⟩
      walk_at "rg"
      have hi2 : i ≤ 2 := by omega
      refine ⟨⟨_, .of ha⟩, fun D hD => ?_⟩
      have hyl := hA.length
      rw [List.length_map] at hyl
      have hll := lvl_small (k := i) hn10 hi2
      have hll2 := lvl_length n (i + 1)
      refine lc_lists (walk_listN rfl) hD (by omega) (fun j H' xs => Ats H' ((((lvlM n i).map fun p => (hear n p).map fun h => pk (p ++ [h]))[j]?).getD []) xs) (fun _ _ _ _ r t => r.keep t _ _) (fun H' l' => .of (l'.lst ha)) (fun j x H' H'' hj l' hy Yk Nk kY hD' => ?_) (fun H' bs xss l' hbs hxl hpr hR => ?_)
      · obtain ⟨rfl, hx⟩ := hy
        refine ⟨rfl, ?_⟩
        obtain ⟨d, hd, hAx⟩ := (hA.le l').get' hx
        rw [List.getElem?_map] at hd
        obtain ⟨p, hp, rfl⟩ := Option.map_eq_some_iff.mp hd
        obtain ⟨b, rfl, hb⟩ := pk_of hAx
        have hpP := ((mem_lvl (by omega)).mp (List.mem_of_getElem? hp)).1
        walk_at "rg"
        refine ⟨by omega, by omega, fun D2 hD2 => ?_⟩
        refine lc_data walk_range hD2 (by omega) (fun i : Nat => if (i : Int) ∉ p then some (pk (p ++ [(i : Int)])) else none) (fun _ _ => True.intro) (fun i2 x H5 H6 hi2 l5 hy Yk2 Nk2 kY2 kN2 => ?_) (fun H5 zs l5 hzs hz => ?_)
        · obtain ⟨rfl, rfl⟩ := hy
          refine ⟨rfl, ?_⟩
          walk_at "rg"
          refine ⟨b, _, rfl, .inr (.of (l5.tup hb)), rfl, ints_flat p, ?_⟩
          rw [inV_ints]
          refine ⟨_, rfl, ?_⟩
          by_cases hc : (i2 : Int) ∈ p
          · rw [decide_eq_true hc]
            exact kN2 _ (.refl _) (if_neg (fun h => h hc))
          · rw [decide_eq_false hc]
            refine iteT ?_
            intro c hcn
            refine ⟨_, .of (by rw [upd_ne (ne_of_none (l5.tup hb) hcn)]; exact l5.tup hb), [.int i2], .of upd_same, fun e => ?_, ?_, fun e => (nomatch e), fun _ b2 hb2 => ?_⟩
            · have h1 := hpP.pos
              rw [List.map_eq_nil_iff] at e
              rw [e] at h1
              exact absurd h1 (by decide)
            · have h2 := nodup_len n p hpP.nd hpP.mem
              rw [List.length_map, sizeLine_eq]
              show p.length + 1 ≤ _
              omega
            · refine kY2 _ _ _ ((Le.new hcn).trans (.new hb2)) (if_pos hc) (pk_at ?_)
              rw [upd_same, List.map_append]
              rfl
        · refine kY D2 zs H5 l5 hD' (fun e => hD' (e ▸ hD2)) hzs ?_
          rw [Int.toNat_natCast, hear_fm2] at hz
          rw [List.getElem?_map, hp]
          exact hz
      · walk_at "rg"
        intro p5 hp5
        have hat := ats_flat (dss := (lvlM n i).map fun p => (hear n p).map fun h => pk (p ++ [h])) (by rw [List.length_map, hxl, hyl]) hR
        have hlen : xss.flatten.length = (lvlM n (i + 1)).length := by
          rw [hat.length, lvl_flat, List.length_map]
        refine ⟨D, p5, bs, xss, rfl, .of (by rw [upd_ne (ne_of_none hbs hp5)]; exact hbs), upd_same, paired_keep (fun b xs _ e => by rw [upd_ne (ne_of_none e hp5)]; exact e) hpr, ?_, fun p6 H6 l6 h6 => ?_⟩
        · rw [hlen]
          exact Nat.le_trans hll2 (Nat.le_trans (Nat.pow_le_pow_left hn10 _) (Nat.le_trans (Nat.pow_le_pow_right (by decide) (by omega : i + 1 ≤ 3)) (by rw [sizeLine_eq]; decide)))
        · refine ⟨p6, rfl, ((l.trans l').trans (.new hp5)).trans l6, _, h6, ?_⟩
          rw [← lvl_flat]
          exact hat.le ((Le.new hp5).trans l6)
    · rintro σ H1 ⟨a, v3, ys, rfl, l, ha, hA⟩
      walk_at "rg"
      refine ⟨⟨_, .of ha⟩, fun D hD => ?_⟩
      have hyl := hA.length
      rw [List.length_map] at hyl
      have hll := lvl_small (n := n) (k := min k (n - 1) - 1) hn10 (by omega)
      refine lc_data (walk_listN rfl) hD (by omega) (fun j => (lvlM n (min k (n - 1) - 1))[j]?.bind fun p => if p.length = k then some (pk p) else none) (fun H' l' => .of (l'.lst ha)) (fun j x H' H'' hj l' hy Yk Nk kY kN => ?_) (fun H' zs l' hzs hz => ?_)
      · obtain ⟨rfl, hx⟩ := hy
        refine ⟨rfl, ?_⟩
        obtain ⟨d, hd, hAx⟩ := (hA.le l').get' hx
        rw [List.getElem?_map] at hd
        obtain ⟨p, hp, rfl⟩ := Option.map_eq_some_iff.mp hd
        obtain ⟨b, rfl, hb⟩ := pk_of hAx
        rw [hp] at kY kN
        walk_at "rg"
        refine ⟨b, _, rfl, .inr (.of hb), rfl, ?_⟩
        rw [List.length_map, dec_int]
        refine ite2 (fun hc => ?_) (fun hc => ?_)
        · refine kY _ _ _ (.refl _) (if_pos ?_) (pk_at hb)
          have := of_decide_eq_true hc
          omega
        · refine kN _ (.refl _) (if_neg fun h => hc ?_)
          exact decide_eq_true (by omega)
      · refine q D H' zs (l.back hD) (l.trans l') hzs ?_
        rw [fm_get' _ hyl, fm_if (fun p : List Int => p.length = k) pk] at hz
        exact hz
abbrev s_vote : Stmt := top 3
theorem sc_vote : FnScope ["signs", "counts", "sign"] ["signs"] (defScope s_vote) := ⟨rfl, rfl, rfl, by decide +kernel, rfl, by decide +kernel, by decide +kernel⟩
theorem ok_vote {f : Addr} {fd : FuncData} (F : Fun K "vote" "vote" s_vote f fd) (T : Bt mg) : FnOk P w K mg base CX0 1 f fd ["signs"] (spVote K) := by
  refine F.ok sc_vote (fun vs H Q E h => ?_) (fun cdv A outer s H vs Q E hr h => ?_)
  · obtain ⟨a, ss, rfl, _⟩ := h
    rfl
  · obtain ⟨a, ss, rfl, hS, hl, k⟩ := h
    have hu := hr.units
    refine ⟨_, (pss_cons (ps_set (i := 1) sc_vote.nd rfl (Or.inl rfl) pe_nnew)
        (pss_cons (ps_for PassesOwn.never rfl (pi_listK (K := K) rfl (pv 0)) (pg_name (i := 2) sc_vote.nd rfl (Or.inl rfl))
          (pss_one (ps_nputK (P := P) (w := w) rfl rfl hu (pv 1) (pv 2) (pe_op op_add (pe_nget2K (P := P) (w := w) rfl rfl hu (pv 1) (pv 2) pe_int ⟨rfl, rfl, rfl, rfl⟩) pe_int) rfl)))
        (pss_cons (ps_for PassesOwn.never rfl (pi_nkeys (pv 1)) (pg_name (i := 2) sc_vote.nd rfl (Or.inl rfl))
          (pss_one (ps_if (pt_cmpR op_gt (pe_op op_mul pe_int (pe_ngetK (P := P) (w := w) rfl rfl hu (pv 1) (pv 2) (fun _ _ => rfl))) (pe_callB (len_seqK (K := K) rfl) (by rfl) T.b_len bb_len (pa_cons (pv 0) pa_nil)) (nomark _))
            (pss_one (ps_ret (pv 2)))
            pss_nil)))
        (pss_one (ps_ret pe_non))))), ?_⟩
    intro d hd hs
    have l0 : Le H (L2.upd H d (raw d newD)) := .new hd
    refine ⟨_, rfl, a, rfl, ⟨_, l0.sql hS⟩, for_it (n := ss.length) (walk_listN (by simp)) (fun i σ H' => ∃ v kvs, σ = [some (.ref a), some (.ref d), v] ∧ Le H H' ∧ LD P w H' d kvs ∧ Told (ss.take i) kvs)
      ⟨_, [], rfl, l0, ⟨hs, _, upd_same, newD_LD P w⟩, .nil⟩ (fun i σ H' _ ⟨v, kvs, _, l, _⟩ => l.sql hS) ?_ ?_⟩
    · rintro i x σ H1 H2 hi ⟨v, kvs, rfl, l, hD, ht⟩ ⟨rfl, hx⟩
      rw [List.getElem?_map, List.getElem?_eq_getElem hi] at hx
      obtain rfl : sg ss[i] = x := Option.some.inj hx
      refine ⟨_, rfl, d, rfl, hD.isDict, _, rfl, _, .inl ⟨kvs, ss[i], hD, rfl, rfl⟩, ?_⟩
      have e : (valV kvs ss[i]).getD (.int 0) = .int ((ss.take i).count ss[i] : Int) := by
        rw [ht.val]
        split
        · rename_i h0
          rw [h0]
          rfl
        · rfl
      refine ⟨_, _, e, rfl, _, rfl, _, rfl, d, rfl, .inl ⟨kvs, ss[i], hD, rfl, ?_, fun o ho => ?_⟩⟩
      · have := ht.len
        rw [List.length_take] at this
        exact small1000 (by omega)
      · refine ⟨_, _, rfl, l.mut hd, ⟨hs, o, upd_same, ho⟩, ?_⟩
        rw [List.take_succ_eq_append_getElem hi]
        exact ht.step _
    · rintro σ H1 ⟨v, kvs, rfl, l, hD, ht⟩
      rw [List.take_length] at ht
      obtain ⟨_, o, ho, io⟩ := id hD
      refine ⟨_, rfl, d, o, _, rfl, ho, keys_LD io, hs, for_it walk_n (fun i σ H' => ∃ v, σ = [some (.ref a), some (.ref d), v] ∧ Le H H' ∧ LD P w H' d kvs ∧ H' d = some (raw d o) ∧ ∀ j p, j < i → kvs[j]? = some p → ¬ ss.length < 2 * ss.count p.1)
        ⟨_, rfl, l, hD, ho, fun j p hj => by omega⟩ (fun i σ H' _ ⟨v, _, _, _, e, _⟩ => e) ?_ ?_⟩
      · rintro i x σ H1 H2 hi ⟨v, rfl, l, hD, hH, hno⟩ ⟨rfl, hx⟩
        rw [List.length_map] at hi
        rw [List.getElem?_map, List.getElem?_eq_getElem hi] at hx
        obtain rfl : sg kvs[i].1 = x := Option.some.inj hx
        have hv : valV kvs kvs[i].1 = some (.int (ss.count kvs[i].1 : Int)) := by
          have hm : kvs[i].1 ∈ kvs.map (·.1) := List.mem_map.mpr ⟨kvs[i], List.getElem_mem hi, rfl⟩
          have q := ht.val kvs[i].1
          split at q
          · exact absurd hm (valV_not q)
          · exact q
        refine ⟨_, rfl, _, rfl, d, _, rfl, .inl ⟨kvs, _, hD, rfl, hv.symm⟩, _, _, rfl, rfl, .inl ⟨by decide, by decide⟩, _, rfl, a, _, rfl, .inl (l.sql hS), _, _, rfl, rfl, _, rfl, ?_⟩
        refine ite2 (fun hc => ?_) (fun hc => ?_)
        · have hc : ss.length < 2 * ss.count kvs[i].1 := by
            rw [decide_eq_true_eq, List.length_map] at hc
            omega
          refine ⟨_, rfl, ?_⟩
          have q := k _ l
          rw [voteM_of hc] at q
          exact q
        · refine ⟨_, rfl, l, hD, hH, fun j p hj hp hc2 => ?_⟩
          by_cases e : j < i
          · exact hno j p e hp hc2
          · have e : j = i := by omega
            subst e
            rw [List.getElem?_eq_getElem hi] at hp
            cases hp
            refine hc ?_
            rw [decide_eq_true_eq, List.length_map]
            omega
      · rintro σ H1 ⟨v, rfl, l, hD, hH, hno⟩
        have e : voteM ss = none := voteM_none fun x hx hc => by
          have q := ht.val x
          rw [if_neg (Nat.pos_iff_ne_zero.mp (List.count_pos_iff.mpr hx))] at q
          obtain ⟨j, hj⟩ := List.mem_iff_getElem?.mp (valV_mem q)
          have := (List.getElem?_eq_some_iff.mp hj).1
          exact hno j _ (by rw [List.length_map]; exact this) hj hc
        have q := k H1 l
        rw [e] at q
        exact q
abbrev s_law_vote : Stmt := top 10
theorem sc_law_vote : FnScope ["_law_signs_here", "_law_sign"] ["_law_signs_here"] (defScope s_law_vote) := ⟨rfl, rfl, rfl, by decide +kernel, rfl, by decide +kernel, by decide +kernel⟩
theorem ok_law_vote {f : Addr} {fd : FuncData} (F : Fun K "_law_vote" "_law_vote" s_law_vote f fd) (T : Bt mg) : FnOk P w K mg base CX0 1 f fd ["_law_signs_here"] (spVote K) := by
  refine F.ok sc_law_vote (fun vs H Q E h => ?_) (fun cdv A outer s H vs Q E hr h => ?_)
  · obtain ⟨a, ss, rfl, _⟩ := h
    rfl
  · obtain ⟨a, ss, rfl, hS, hl, k⟩ := h
    refine ⟨_, (pss_cons (ps_for PassesOwn.never rfl (pi_listK (K := K) rfl (pv 0)) (pg_name (i := 1) sc_law_vote.nd rfl (Or.inl rfl))
          (pss_one (ps_if (pt_cmpR op_gt (pe_op op_mul pe_int (bmK (K := K) rfl (pe_bm PySem.F.plainAttrs_list PySem.F.slot_list_count PySem.F.type_list_count (countVK (K := K) rfl) (pv 0) (pa_cons (pv 1) pa_nil)))) (pe_callB (len_seqK (K := K) rfl) (by rfl) T.b_len bb_len (pa_cons (pv 0) pa_nil)) (nomark _))
            (pss_one (ps_ret (pv 1)))
            pss_nil)))
        (pss_one (ps_ret pe_non))), ?_⟩
    refine ⟨_, rfl, a, rfl, ⟨_, hS⟩, for_it (n := ss.length) (walk_listN (by simp)) (fun i σ H' => ∃ v, σ = [some (.ref a), v] ∧ Le H H' ∧ ∀ j, (hj : j < ss.length) → j < i → ¬ ss.length < 2 * ss.count ss[j])
      ⟨_, rfl, .refl H, fun j _ hj => by omega⟩ (fun i σ H' _ ⟨v, _, l, _⟩ => l.sql hS) ?_ ?_⟩
    · rintro i x σ H1 H2 hi ⟨v, rfl, l, hno⟩ ⟨rfl, hx⟩
      rw [List.getElem?_map, List.getElem?_eq_getElem hi] at hx
      obtain rfl : sg ss[i] = x := Option.some.inj hx
      refine ⟨_, rfl, .inl ⟨rfl, _, l.sql hS⟩, _, rfl, a, _, _, rfl, rfl, l.sql hS, sg_flat _, sgs_flat _, ?_⟩
      rw [countP_sg]
      refine ⟨_, _, rfl, rfl, .inl ⟨by decide, by decide⟩, _, rfl, a, _, rfl, .inl (l.sql hS), _, _, rfl, rfl, _, rfl, ite2 (fun hc => ?_) (fun hc => ?_)⟩
      · rw [decide_eq_true_eq, List.length_map] at hc
        refine ⟨_, rfl, ?_⟩
        have q := k _ l
        rw [voteM_of (x := ss[i]) (by omega)] at q
        exact q
      · rw [decide_eq_true_eq, List.length_map] at hc
        refine ⟨_, rfl, l, fun j hj hji => ?_⟩
        by_cases e : j < i
        · exact hno j hj e
        · obtain rfl : j = i := by omega
          omega
    · rintro σ H1 ⟨v, rfl, l, hno⟩
      have e : voteM ss = none := voteM_none fun x hx => by
        obtain ⟨j, hj, rfl⟩ := List.getElem_of_mem hx
        exact hno j hj hj
      have q := k H1 l
      rw [e] at q
      exact q
abbrev s_settled : Stmt := top 4
theorem sc_settled : FnScope ["hands", "most", "told", "hand", "path", "signs", "other"] ["hands", "most", "told", "hand", "path"] (defScope s_settled) := ⟨rfl, rfl, rfl, by decide +kernel, rfl, by decide +kernel, by decide +kernel⟩
theorem ok_settled {f f1 f2 : Addr} {fd fd1 fd2 : FuncData} (F : Fun K "settled" "settled" s_settled f fd) (T : Bt mg)
    (c_hearers : Cal P w K mg base CX0 1 "hearers" ["hands", "path"] spHear f1 fd1) (c_vote : Cal P w K mg base CX0 1 "vote" ["signs"] (spVote K) f2 fd2)
    (gl : mg "settled" = some (.ref f)) (kp : PySem.W.keepIn K (.ref f) = true) (bd : Binds K fd ["hands", "most", "told", "hand", "path"] []) : ∀ E, FnOk P w K mg base CX0 (2 + E) f fd ["hands", "most", "told", "hand", "path"] (spSettled P w E)
  | 0 => F.ok sc_settled (fun vs H Q E h => spSettled_len h) (fun cdv A outer s H vs Q E hr h => by
      obtain ⟨_, _, d, _, _, _, _, _, h, _⟩ := h
      exact absurd h (Nat.not_lt_zero d))
  | D + 1 => by
    have c_settled : Cal P w K mg base CX0 (2 + D) "settled" ["hands", "most", "told", "hand", "path"] (spSettled P w D) f fd := ⟨ok_settled F T c_hearers c_vote gl kp bd D, gl, kp, bd⟩
    refine F.ok (k := 2 + D) sc_settled (fun vs H Q E h => spSettled_len h) (fun cdv A outer s H vs Q E hr h => ?_)
    obtain ⟨n, m, d, t, b, hand, p, tf, hd, rfl, hn, hb, hp, hh, hl, hT, q⟩ := h
    have hu := hr.units
    refine ⟨_, (pss_cons (ps_if (pt_cmpR op_gt (pe_callB (len_seqK (K := K) rfl) (by rfl) T.b_len bb_len (pa_cons (pv 4) pa_nil)) (pv 1) (nomark _))
          (pss_one (ps_ret (pe_ngetK (P := P) (w := w) rfl rfl hu (pv 2) (pv 4) (fun _ _ => rfl))))
          pss_nil)
        (pss_cons (ps_set (i := 5) sc_settled.nd rfl (Or.inl rfl) (pe_lst (pa_cons (pe_ngetK (P := P) (w := w) rfl rfl hu (pv 2) (pv 4) (fun _ _ => rfl)) pa_nil)))
        (pss_cons (ps_for PassesOwn.never rfl (pi_listK (K := K) rfl (pe_own c_hearers (hr.mono (by omega)) rfl (pa_cons (pv 0) (pa_cons (pv 4) pa_nil)))) (pg_name (i := 6) sc_settled.nd rfl (Or.inl rfl))
          (pss_one (ps_if (pt_cmpR op_ne (pv 6) (pv 3) (nomark _))
            (pss_one (ps_expr (bmK (K := K) rfl (pe_bm PySem.F.plainAttrs_list PySem.F.slot_list_append PySem.F.type_list_append mt_append (pv 5) (pa_cons (pe_own c_settled (hr.mono (by omega)) rfl (pa_cons (pv 0) (pa_cons (pv 1) (pa_cons (pv 2) (pa_cons (pv 3) (pa_cons (pe_tup (pa_starK (K := K) rfl (pv 4) (pa_cons (pv 6) pa_nil))) pa_nil)))))) pa_nil)))))
            pss_nil)))
        (pss_one (ps_ret (pe_own c_vote (hr.mono (by omega)) rfl (pa_cons (pv 5) pa_nil))))))), ?_⟩
    walk_at "rg"
    refine ⟨b, _, rfl, .inr (.of hb), _, rfl, ite2 (fun hc => ?_) (fun hc => ?_)⟩
    · have hc := of_decide_eq_true hc
      rw [List.length_map] at hc
      obtain rfl : d = 0 := by omega
      exact ⟨_, hT.dg hb hp hh (by omega), q _ (.refl _)⟩
    · have hc : ¬ _ := fun z => hc (decide_eq_true z)
      rw [List.length_map] at hc
      obtain ⟨e, rfl⟩ : ∃ e, d = e + 1 := ⟨d - 1, by omega⟩
      refine ⟨_, hT.dg hb hp hh (by omega), fun sl hsl => ⟨n, p, b, rfl, (Le.new hsl).tup hb, hn, fun h1 H1 hh1 l1 hH1 => ?_⟩⟩
      have l0 : Le H (L2.upd H sl (.lst [sg (tf p)])) := .new hsl
      have hne : h1 ≠ sl := fun z => by
        subst z
        rw [upd_same] at hh1
        cases hh1
      refine ⟨h1, rfl, ⟨_, .of hH1⟩, for_it (n := (hear n p).length) (walk_listN (by rw [List.length_map])) (fun i σ H' => ∃ v, σ = [some (.int n), some (.int m), some (.ref t), some (.int hand), some (.ref b), some (.ref sl), v] ∧ Le H H' ∧ H' h1 = some (.lst ((hear n p).map .int)) ∧ H' sl = some (.lst ((tf p :: saidM tf n hand e p ((hear n p).take i)).map sg)))
        ⟨_, rfl, l0.trans l1, hH1, l1.lst upd_same⟩ (fun i σ H' _ ⟨v, _, _, g, _⟩ => .of g) ?_ ?_⟩
      · rintro i x σ H2 H3 hi ⟨v, rfl, l2, g1, g2⟩ ⟨rfl, hx⟩
        rw [List.getElem?_map, List.getElem?_eq_getElem hi] at hx
        obtain rfl : V.int (hear n p)[i] = x := Option.some.inj hx
        have hxm : (hear n p)[i] ∈ hear n p := List.getElem_mem hi
        have htk : (hear n p).take (i + 1) = (hear n p).take i ++ [(hear n p)[i]] := List.take_succ_eq_append_getElem hi
        generalize (hear n p)[i] = x at hxm htk
        walk_at "rg"
        refine ite2 (fun hc => ?_) (fun hc => ?_)
        · have hc : x ≠ hand := fun z => by simp [z] at hc
          refine ⟨.inl ⟨rfl, _, .of g2⟩, _, .inl (.of (l2.tup hb)), ?_, fun b2 hb2 => ?_⟩
          · have h2 := nodup_len n p hp.nd hp.mem
            rw [List.length_append, List.length_map, sizeLine_eq]
            show p.length + 1 ≤ _
            omega
          · refine ⟨n, m, e, t, b2, hand, p ++ [x], tf, by omega, rfl, hn, by rw [upd_same, List.map_append]; rfl, hp.add hxm, ?_, ?_, hT.le (l2.trans (.new hb2)), fun H4 l4 => ?_⟩
            · rw [List.mem_append, List.mem_singleton]
              exact fun z => z.elim hh fun z => hc z.symm
            · rw [List.length_append]
              show p.length + 1 + e = _
              omega
            · have l3 := (Le.new hb2 (o := .tup (p.map .int ++ [.int x]))).trans l4
              refine ⟨_, l3.lst g2, ?_, ?_⟩
              · have h3 := said_length tf n hand e p ((hear n p).take i)
                have h4 := hear_length n p
                rw [List.length_take] at h3
                rw [List.length_map, List.length_cons, sizeLine_eq]
                omega
              · refine ⟨(l2.trans l3).mut hsl, ?_, ?_⟩
                · rw [upd_ne hne]
                  exact l3.lst g1
                · rw [upd_same, htk, said_snoc, if_neg hc]
                  simp
        · have hc : x = hand := by simpa using hc
          refine ⟨l2, g1, ?_⟩
          rw [htk, said_snoc, if_pos hc]
          exact g2
      · rintro σ H2 ⟨v, rfl, l2, g1, g2⟩
        rw [List.take_length] at g2
        walk_at "rg"
        refine ⟨sl, _, rfl, .of g2, ?_, fun H3 l3 => q H3 (l2.trans l3)⟩
        have h3 := said_length tf n hand e p (hear n p)
        have h4 := hear_length n p
        rw [List.length_cons]
        omega
abbrev s_law_settled : Stmt := top 11
abbrev n_law_settled : List Str := ["_law_hands", "_law_most", "_law_told", "_law_hand", "_law_path", "_law_others", "_law_other"]
theorem sc_law_settled : FnScope ["_law_hands", "_law_most", "_law_told", "_law_hand", "_law_path", "_law_others", "_law_other"] ["_law_hands", "_law_most", "_law_told", "_law_hand", "_law_path"] (defScope s_law_settled) := ⟨rfl, rfl, rfl, by decide +kernel, rfl, by decide +kernel, by decide +kernel⟩
theorem ok_law_settled {f f1 : Addr} {fd fd1 : FuncData} (F : Fun K "_law_settled" "_law_settled" s_law_settled f fd) (T : Bt mg)
    (c_law_vote : Cal P w K mg base CX0 1 "_law_vote" ["_law_signs_here"] (spVote K) f1 fd1)
    (gl : mg "_law_settled" = some (.ref f)) (kp : PySem.W.keepIn K (.ref f) = true) (bd : Binds K fd ["_law_hands", "_law_most", "_law_told", "_law_hand", "_law_path"] []) : ∀ E, FnOk P w K mg base CX0 (2 + E) f fd ["_law_hands", "_law_most", "_law_told", "_law_hand", "_law_path"] (spSettled P w E)
  | 0 => F.ok sc_law_settled (fun vs H Q E h => spSettled_len h) (fun cdv A outer s H vs Q E hr h => by
      obtain ⟨_, _, d, _, _, _, _, _, h, _⟩ := h
      exact absurd h (Nat.not_lt_zero d))
  | D + 1 => by
    have c_law_settled : Cal P w K mg base CX0 (2 + D) "_law_settled" ["_law_hands", "_law_most", "_law_told", "_law_hand", "_law_path"] (spSettled P w D) f fd := ⟨ok_law_settled F T c_law_vote gl kp bd D, gl, kp, bd⟩
    refine F.ok (k := 2 + D) sc_law_settled (fun vs H Q E h => spSettled_len h) (fun cdv A outer s H vs Q E hr h => ?_)
    obtain ⟨n, m, d, t, b, hand, p, tf, hd, rfl, hn, hb, hp, hh, hl, hT, q⟩ := h
    have hu := hr.units
    refine ⟨_, (pss_cons (ps_if (pt_cmpR op_eq (pe_callB (len_seqK (K := K) rfl) (by rfl) T.b_len bb_len (pa_cons (pv 4) pa_nil)) (pe_op op_add (pv 1) pe_int) (nomark _))
          (pss_one (ps_ret (pe_ngetK (P := P) (w := w) rfl rfl hu (pv 2) (pv 4) (fun _ _ => rfl))))
          pss_nil)
        (pss_cons (ps_setLc (i := 5) (own := [("_law_other", 6)]) (g := gName 6) rfl sc_law_settled.nd rfl rfl (sw_true rfl rfl rfl (by decide +kernel)) (pi_range1 (by rfl) T.b_range (pa_cons (pv 0) pa_nil)) (blkOk_by (N := n_law_settled) (sc := defScope s_law_settled) (own := [("_law_other", 6)]) (by decide +kernel)) (fun _ _ _ _ _ => (pg_name (i := 6) sc_law_settled.nd rfl (Or.inl rfl))) (fun _ _ _ _ _ => pts_one (PW.pt (pw_and (pt_cmpR op_ne (pv 6) (pv 3) (nomark _)) (pw_and1 (pt_cmpR (notIn_seqK (K := K) rfl) (pv 6) (pv 4) rfl))))) (fun _ _ _ _ _ => (pv 6)))
        (pss_one (ps_ret (pe_own c_law_vote (hr.mono (by omega)) rfl (pa_cons (pe_op op_cat (pe_lst (pa_cons (pe_ngetK (P := P) (w := w) rfl rfl hu (pv 2) (pv 4) (fun _ _ => rfl)) pa_nil)) (pe_lc (own := [("_law_other", 6)]) (g := gName 6) rfl sc_law_settled.nd (pi_listK (K := K) rfl (pv 5)) (blkOk_by (N := n_law_settled) (sc := defScope s_law_settled) (own := [("_law_other", 6)]) (by decide +kernel)) (fun _ _ _ _ _ => (pg_name (i := 6) sc_law_settled.nd rfl (Or.inl rfl))) (fun _ _ _ _ _ => pts_nil) (fun _ _ _ _ _ => (pe_own c_law_settled (hr.mono (by omega)) rfl (pa_cons (pv 0) (pa_cons (pv 1) (pa_cons (pv 2) (pa_cons (pv 3) (pa_cons (pe_op (catTK (K := K) rfl) (pv 4) (pe_tup (pa_cons (pv 6) pa_nil))) pa_nil))))))))) pa_nil)))))), ?_⟩
    walk_at "rg"
    refine ⟨b, _, rfl, .inr (.of hb), rfl, ?_⟩
    rw [dec_int]
    refine ite2 (fun hc => ?_) (fun hc => ?_)
    · have hc := of_decide_eq_true hc
      rw [List.length_map] at hc
      obtain rfl : d = 0 := by omega
      exact ⟨_, hT.dg hb hp hh (by omega), q _ (.refl _)⟩
    · have hc : ¬ _ := fun z => hc (decide_eq_true z)
      rw [List.length_map] at hc
      obtain ⟨e, rfl⟩ : ∃ e, d = e + 1 := ⟨d - 1, by omega⟩
      refine ⟨by omega, by omega, fun D1 hD1 => ?_⟩
      refine lc_data walk_range hD1 (by omega) (fun i : Nat => if (i : Int) ∉ p ∧ (i : Int) ≠ hand then some (.num (i : Int)) else none) (fun _ _ => True.intro) (fun i x H' H'' hi l hy Yk Nk kY kN => ?_) (fun H' ys l hys ha => ?_)
      · obtain ⟨rfl, rfl⟩ := hy
        refine ⟨rfl, ?_⟩
        walk_at "rg"
        refine ite2 (fun hc => ?_) (fun hc => ?_)
        · have hc : ¬ (i : Int) = hand := by simpa using hc
          refine ⟨b, _, rfl, .inr (.of (l.tup hb)), rfl, ints_flat p, _, rfl, ?_⟩
          rw [inV_ints]
          by_cases hc2 : (i : Int) ∈ p
          · rw [decide_eq_true hc2]
            exact kN _ (.refl _) (if_neg (fun h => h.1 hc2))
          · rw [decide_eq_false hc2]
            exact kY _ _ _ (.refl _) (if_pos ⟨hc2, hc⟩) At.int
        · have hc : (i : Int) = hand := by simpa using hc
          exact kN _ (.refl _) (if_neg (fun h => h.2 hc))
      · rw [Int.toNat_natCast, others_fm] at ha
        have e1 := ha.ints
        subst e1
        have hd0 : Le H H' := l
        refine ⟨_, (hT.le l).dg (l.tup hb) hp hh (by omega), fun p1 hp1 => ⟨D1, rfl, ⟨_, .of ((Le.new hp1).lst hys)⟩, fun D2 hD2 => ?_⟩⟩
        have l1 := l.trans (Le.new hp1 (o := .lst [sg (tf p)]))
        refine lc_data (walk_listN (by rw [List.length_map])) hD2 (n := ((hear n p).filter fun o => decide (o ≠ hand)).length) ?_ (fun i => ((hear n p).filter fun o => decide (o ≠ hand))[i]?.bind fun o => some (sd (settM tf n hand e (p ++ [o])))) (fun H' l' => .of (l'.lst ((Le.new hp1).lst hys))) (fun i x H3 H4 hi l3 hy Yk Nk kY kN => ?_) (fun H3 zs l3 hzs hz => ?_)
        · have := List.length_filter_le (fun o => decide (o ≠ hand)) (hear n p)
          have := hear_length n p
          omega
        · obtain ⟨rfl, hx⟩ := hy
          refine ⟨rfl, ?_⟩
          rw [List.getElem?_map] at hx
          obtain ⟨x, hx2, rfl⟩ := Option.map_eq_some_iff.mp hx
          obtain ⟨hxm, hc⟩ := List.mem_filter.mp (List.mem_of_getElem? hx2)
          have hc := of_decide_eq_true hc
          rw [hx2] at kY
          have l2 := l1.trans l3
          walk_at "rg"
          intro p2 hp2
          refine ⟨_, .of ((Le.new hp2).tup (l2.tup hb)), [.int x], .of upd_same, fun z => ?_, ?_, fun z => (nomatch z), fun _ b2 hb2 => ?_⟩
          · have h1 := hp.pos
            rw [List.map_eq_nil_iff] at z
            rw [z] at h1
            exact absurd h1 (by decide)
          · have h2 := nodup_len n p hp.nd hp.mem
            rw [List.length_map, sizeLine_eq]
            show p.length + 1 ≤ _
            omega
          · have l4 := (Le.new hp2 (o := .tup [.int x])).trans (.new hb2 (o := .tup (p.map .int ++ [.int x])))
            refine ⟨n, m, e, t, b2, hand, p ++ [x], tf, by omega, rfl, hn, by rw [upd_same, List.map_append]; rfl, hp.add hxm, ?_, ?_, hT.le (l2.trans l4), fun H5 l5 => kY _ _ _ (l4.trans l5) rfl (sd_at _)⟩
            · rw [List.mem_append, List.mem_singleton]
              exact fun z => z.elim hh fun z => hc z.symm
            · rw [List.length_append]
              show p.length + 1 + e = _
              omega
        · have ez : zs = (saidM tf n hand e p (hear n p)).map sg := by
            refine ats_sd (H := H3) ?_
            rw [fm_get] at hz
            unfold saidM
            rw [List.map_map, ← List.filterMap_eq_map]
            exact hz
          subst ez
          have h3 := said_length tf n hand e p (hear n p)
          have h4 := hear_length n p
          have l4 := l1.trans l3
          refine ⟨p1, D2, _, _, rfl, rfl, l3.lst upd_same, hzs, ?_, fun p3 hp3 => ⟨p3, tf p :: saidM tf n hand e p (hear n p), rfl, .of upd_same, ?_, fun H4 l5 => q H4 ((l4.trans (.new hp3)).trans l5)⟩⟩
          · rw [List.length_map, sizeLine_eq]
            show 1 + _ ≤ _
            omega
          · rw [List.length_cons]
            omega
def cell (ns : List Int) (k : Int) : Int := ns.getD k.toNat 0
def spCell (K : PySem.W.Frag) : Sp := fun vs H Q _ => ∃ (a : Addr) (ns : List Int) (k : Int), vs = [.ref a, .int k] ∧ SqL K H a (ns.map V.int) ∧ ns.length ≤ 63 ∧ 0 ≤ k ∧ Q (.int (cell ns k)) H
abbrev s_law_cell_at : Stmt := top 6
theorem sc_law_cell_at : FnScope ["_law_script", "_law_k"] ["_law_script", "_law_k"] (defScope s_law_cell_at) := ⟨rfl, rfl, rfl, by decide +kernel, rfl, by decide +kernel, by decide +kernel⟩
theorem ok_law_cell_at {f : Addr} {fd : FuncData} (F : Fun K "_law_cell_at" "_law_cell_at" s_law_cell_at f fd) (T : Bt mg) : FnOk P w K mg base CX0 1 f fd ["_law_script", "_law_k"] (spCell K) := by
  refine F.ok sc_law_cell_at (fun vs H Q E h => ?_) (fun cdv A outer s H vs Q E hr h => ?_)
  · obtain ⟨a, ns, k, rfl, _⟩ := h
    rfl
  · obtain ⟨a, ns, k, rfl, hS, hl, h0, q⟩ := h
    refine ⟨_, (pss_cons (ps_if (pt_cmpR op_lt (pv 1) (pe_callB (len_seqK (K := K) rfl) (by rfl) T.b_len bb_len (pa_cons (pv 0) pa_nil)) (nomark _))
          (pss_one (ps_ret (pe_ix (ix_listK (K := K) rfl) (pv 0) (pv 1) (fun _ _ => rfl))))
          pss_nil)
        (pss_one (ps_ret pe_int))), ?_⟩
    refine ⟨_, rfl, _, rfl, a, _, rfl, .inl hS, _, _, rfl, rfl, _, rfl, ite2 (fun hc => ?_) (fun hc => ?_)⟩
    · rw [decide_eq_true_eq, List.length_map] at hc
      have e : cell ns k = ns[k.toNat]'(by omega) := by
        unfold cell
        rw [List.getD_eq_getElem?_getD, List.getElem?_eq_getElem (by omega)]
        rfl
      refine ⟨_, rfl, _, rfl, a, _, k, .int (cell ns k), rfl, rfl, hS, at_of (j := k.toNat) (by omega) ?_, q⟩
      rw [List.getElem?_map, List.getElem?_eq_getElem (by omega), e]
      rfl
    · rw [decide_eq_true_eq, List.length_map] at hc
      have e : cell ns k = 0 := by
        unfold cell
        rw [List.getD_eq_getElem?_getD, List.getElem?_eq_none (by omega)]
        rfl
      rw [e] at q
      exact q
def spSigns : Sp := fun vs H Q _ => ∃ (c : Int), vs = [.int c] ∧ ∀ p H' (ss : List Str), H p = none → Le H H' → H' p = some (.lst (ss.map .str)) → ss.length = 4 → (∀ s ∈ ss, IsSign s) → Q (.ref p) H'
abbrev ABC : Str := "abcdefghijklmnopqrstuvwxyz"
theorem abc_len : ABC.length ≤ sizeLine := by decide +kernel
theorem abc_at : ∀ i : Nat, i < 26 → ABC.cps.toList[i]? = some (97 + i) := by decide +kernel
theorem abc_ix {i : Int} (h0 : 0 ≤ i) (h1 : i < 26) : ∃ c, atI ABC.cps.toList i = some c ∧ 97 ≤ c ∧ c ≤ 122 := by
  obtain ⟨n, rfl⟩ := Int.eq_ofNat_of_zero_le h0
  exact ⟨97 + n, atI_nat (abc_at n (by omega)), by omega, by omega⟩
theorem repS_mem {c : Nat} {n : Int} {x : Nat} (h : x ∈ (repS ⟨#[c]⟩ n).cps.toList) : x = c := by
  have h : x ∈ ((List.replicate n.toNat [c]).flatten).toArray.toList := h
  rw [List.toList_toArray] at h
  obtain ⟨l, hl, hx⟩ := List.mem_flatten.mp h
  rw [(List.mem_replicate.mp hl).2] at hx
  exact List.mem_singleton.mp hx
theorem one_len (c : Nat) : (⟨#[c]⟩ : Str).length = 1 := rfl
theorem app_lenS (x y : Str) : (x ++ y).length = x.length + y.length := by
  show (x.cps ++ y.cps).size = _
  rw [Array.size_append]
  rfl
theorem app_mem {x y : Str} {c : Nat} (h : c ∈ (x ++ y).cps.toList) : c ∈ x.cps.toList ∨ c ∈ y.cps.toList := by
  have h : c ∈ (x.cps ++ y.cps).toList := h
  rw [Array.toList_append] at h
  exact List.mem_append.mp h
abbrev s_law_signs : Stmt := top 7
theorem sc_law_signs : FnScope ["_law_cell", "_law_letters", "_law_size", "_law_found", "_law_k", "_law_sign", "_law_place", "_law_ahead", "_law_behind"] ["_law_cell"] (defScope s_law_signs) := ⟨rfl, rfl, rfl, by decide +kernel, rfl, by decide +kernel, by decide +kernel⟩
theorem ok_law_signs {f : Addr} {fd : FuncData} (F : Fun K "_law_signs" "_law_signs" s_law_signs f fd) (T : Bt mg) : FnOk P w K mg base CX0 1 f fd ["_law_cell"] spSigns := by
  refine F.ok sc_law_signs (fun vs H Q E h => ?_) (fun cdv A outer s H vs Q E hr h => ?_)
  · obtain ⟨c, rfl, _⟩ := h
    rfl
  · obtain ⟨c, rfl, q⟩ := h
    refine ⟨_, (pss_cons (ps_set (i := 1) sc_law_signs.nd rfl (Or.inl rfl) pe_str)
        (pss_cons (ps_set (i := 2) sc_law_signs.nd rfl (Or.inl rfl) (pe_op op_add pe_int (pe_op op_mod (pe_op op_fdiv (pv 0) pe_int) pe_int)))
        (pss_cons (ps_set (i := 3) sc_law_signs.nd rfl (Or.inl rfl) (pe_lst pa_nil))
        (pss_cons (ps_for PassesOwn.never rfl (pi_range1 (by rfl) T.b_range (pa_cons pe_int pa_nil)) (pg_name (i := 4) sc_law_signs.nd rfl (Or.inl rfl))
          (pss_cons (ps_set (i := 5) sc_law_signs.nd rfl (Or.inl rfl) (pe_ix ix_str (pv 1) (pe_op op_mod (pe_op op_add (pe_op op_fdiv (pv 0) pe_int) (pe_op op_mul pe_int (pv 4))) pe_int) (fun _ _ => rfl)))
          (pss_one (ps_if (pt_cmpR op_eq (pe_op op_mod (pv 0) pe_int) pe_int (nomark _))
            (pss_one (ps_expr (bmK (K := K) rfl (pe_bm PySem.F.plainAttrs_list PySem.F.slot_list_append PySem.F.type_list_append mt_append (pv 3) (pa_cons (pe_op op_mulS (pe_ix ix_str (pv 1) (pe_op op_mod (pe_op op_fdiv (pv 0) pe_int) pe_int) (fun _ _ => rfl)) (pe_op op_add pe_int (pe_op op_mul pe_int (pv 4)))) pa_nil)))))
            (pss_cons (ps_set (i := 6) sc_law_signs.nd rfl (Or.inl rfl) (pe_op op_mod (pe_op op_fdiv (pv 0) pe_int) (pv 2)))
              (pss_cons (ps_set (i := 7) sc_law_signs.nd rfl (Or.inl rfl) (pe_op op_mulS (pe_ix ix_str (pv 1) (pv 2) (fun _ _ => rfl)) (pv 6)))
              (pss_cons (ps_set (i := 8) sc_law_signs.nd rfl (Or.inl rfl) (pe_op op_mulS (pe_ix ix_str (pv 1) (pe_op op_add (pv 2) (pe_op op_mod (pv 0) pe_int)) (fun _ _ => rfl)) (pe_op op_sub (pe_op op_sub (pv 2) pe_int) (pv 6))))
              (pss_one (ps_expr (bmK (K := K) rfl (pe_bm PySem.F.plainAttrs_list PySem.F.slot_list_append PySem.F.type_list_append mt_append (pv 3) (pa_cons (pe_op op_add_str (pe_op op_add_str (pv 7) (pv 5)) (pv 8)) pa_nil))))))))))))
        (pss_one (ps_ret (pv 3))))))), ?_⟩
    walk_at "rd"
    intro p hp
    refine ⟨4, rfl, by decide, by decide, for_range (n := 4) (fun i σ H' => ∃ v5 v6 v7 v8 v9 ss, σ = [some (.int c), some (.str ABC), some (.int (1 + c / 3 % 8)), some (.ref p), v5, v6, v7, v8, v9] ∧ Le H H' ∧ H' p = some (.lst (ss.map .str)) ∧ ss.length = i ∧ ∀ s ∈ ss, IsSign s)
      ⟨none, none, none, none, none, [], rfl, .new hp, upd_same, rfl, fun s hs => nomatch hs⟩ ?_ ?_⟩
    · rintro i σ H1 hi ⟨v5, v6, v7, v8, v9, ss, rfl, l, hl, hss, hg⟩
      walk_at "rd"
      have fin : ∀ (z : Str), IsSign z → Le H (L2.upd H1 p (.lst (ss.map V.str ++ [.str z]))) ∧ ∃ ss' : List Str, (L2.upd H1 p (.lst (ss.map V.str ++ [.str z]))) p = some (.lst (ss'.map .str)) ∧ ss'.length = i + 1 ∧ ∀ s ∈ ss', IsSign s := fun z hz =>
        ⟨l.mut hp, ss ++ [z], by rw [upd_same, List.map_append]; rfl, by rw [List.length_append, hss]; rfl, fun s hs => by
          rcases List.mem_append.mp hs with h | h
          · exact hg s h
          · rw [List.mem_singleton.mp h]; exact hz⟩
      obtain ⟨d, hd, d1, d2⟩ := abc_ix (i := (c / 24 + 7 * (i : Int)) % 26) (by omega) (by omega)
      have small : (ss.map V.str).length < sizeLine := by
        rw [List.length_map]
        exact small1000 (by omega)
      refine ⟨d, hd, ite2 (fun hc => ?_) (fun hc => ?_)⟩
      · obtain ⟨d', hd', e1, e2⟩ := abc_ix (i := c / 24 % 26) (by omega) (by omega)
        refine ⟨.inl ⟨rfl, _, .of hl⟩, d', hd', by omega, by omega, by rw [one_len]; decide, _, hl, small, fin _ ⟨?_, ?_, fun x hx => ?_⟩⟩
        · rw [repS_len, one_len]
          omega
        · rw [repS_len, one_len]
          omega
        · rw [repS_mem hx]
          omega
      · obtain ⟨a1, ha1, b1, b2⟩ := abc_ix (i := 1 + c / 3 % 8) (by omega) (by omega)
        obtain ⟨a2, ha2, b3, b4⟩ := abc_ix (i := 1 + c / 3 % 8 + c % 3) (by omega) (by omega)
        have m0 : 0 ≤ c / 5 % (1 + c / 3 % 8) := Int.emod_nonneg _ (by omega)
        have m1 : c / 5 % (1 + c / 3 % 8) < 1 + c / 3 % 8 := Int.emod_lt_of_pos _ (by omega)
        generalize hm : c / 5 % (1 + c / 3 % 8) = m at m0 m1 ⊢
        have len : (repS ⟨#[a1]⟩ m ++ ⟨#[d]⟩ ++ repS ⟨#[a2]⟩ (1 + c / 3 % 8 - 1 - m)).length = m.toNat + 1 + (1 + c / 3 % 8 - 1 - m).toNat := by
          rw [app_lenS, app_lenS, repS_len, repS_len, one_len, one_len, one_len]
          omega
        refine ⟨by omega, a1, ha1, m0, by omega, by rw [one_len]; decide, a2, ha2, by omega, by omega, by rw [one_len]; decide, .inl ⟨rfl, _, .of hl⟩, ?_, ?_, _, hl, small, fin _ ⟨?_, ?_, fun x hx => ?_⟩⟩
        · rw [repS_len, one_len, one_len, sizeLine_eq]
          omega
        · rw [app_lenS, repS_len, repS_len, one_len, one_len, one_len, sizeLine_eq]
          omega
        · rw [len]
          omega
        · rw [len]
          omega
        · rcases app_mem hx with h | h
          · rcases app_mem h with h | h
            · rw [repS_mem h]; omega
            · have h : x ∈ [d] := h
              rw [List.mem_singleton.mp h]; omega
          · rw [repS_mem h]; omega
    · rintro σ H1 ⟨v5, v6, v7, v8, v9, ss, rfl, l, hl, hss, hg⟩
      exact ⟨_, rfl, q p H1 ss hp l hl hss hg⟩
def spSame : Sp := fun vs H Q _ => ∃ (a b : Option Str), vs = [sg a, sg b] ∧ Q (.bl (decide (a = b))) H
abbrev s_law_same : Stmt := top 12
theorem sc_law_same : FnScope ["_law_found", "_law_due"] ["_law_found", "_law_due"] (defScope s_law_same) := ⟨rfl, rfl, rfl, by decide +kernel, rfl, by decide +kernel, by decide +kernel⟩
theorem ty_sg {K : PySem.W.Frag} {H : Hp} (o : Option Str) : ∃ t, TyX K H (sg o) t ∧ PySem.W.kitOne K t (.type "str") = some o.isSome := by
  cases o with
  | none => exact ⟨_, .base .non, kit_ty (a := "NoneType") (b := "str") (r := false) (by decide +kernel)⟩
  | some x => exact ⟨_, .base (.str x), kit_ty (a := "str") (b := "str") (r := true) (by decide +kernel)⟩
theorem ok_law_same {f : Addr} {fd : FuncData} (F : Fun K "_law_same" "_law_same" s_law_same f fd) (T : Bt mg) : FnOk P w K mg base CX0 1 f fd ["_law_found", "_law_due"] spSame := by
  refine F.ok sc_law_same (fun vs H Q E h => ?_) (fun cdv A outer s H vs Q E hr h => ?_)
  · obtain ⟨a, b, rfl, _⟩ := h
    rfl
  · obtain ⟨a, b, rfl, q⟩ := h
    refine ⟨_, (pss_cons (ps_if (pt_cmpR op_isN (pv 1) pe_non (nomark _))
          (pss_one (ps_ret (pe_cmpR op_isN (pv 0) pe_non (nomark _))))
          pss_nil)
        (pss_one (ps_ret (pe_and (pe_callB (isiK (K := K) rfl) (by rfl) T.b_isinstance bb_isinstance (pa_cons (pv 0) (pa_cons (pe_bltn (v := .ty "str") (by rfl) T.b_str bb_str rfl) pa_nil))) (pe_one (pe_cmpR op_eq (pv 0) (pv 1) (nomark _))))))), ?_⟩
    refine ⟨_, rfl, rfl, _, rfl, ?_⟩
    cases b with
    | none =>
      refine iteT ⟨_, rfl, rfl, ?_⟩
      rw [show V.non = sg none from rfl, dec_sg]
      exact q
    | some y =>
      obtain ⟨t, ht, hk⟩ := ty_sg (K := K) (H := H) a
      refine iteF ⟨_, rfl, _, _, _, _, _, rfl, .ty "str", ht, hk, _, rfl, ?_⟩
      cases a with
      | none => exact iteF q
      | some x =>
        refine iteT ⟨_, rfl, _, rfl, scal_sg (some x) (some y), ?_⟩
        rw [dec_sg (some x) (some y)]
        exact q
/-! ### what a hand was told: every path without it -/
structure Kv (n M m : Nat) (hand : Int) (kvs : List (D × V)) : Prop where
  all : ∀ q, IsP n q → hand ∉ q → q.length ≤ m → (valV kvs (pk q)).isSome = true
  mem : ∀ e ∈ kvs, ∃ q o, e = (pk q, sg o) ∧ IsP n q ∧ hand ∉ q ∧ q.length ≤ M ∧ q.length ≤ n - 1
theorem mem_putK {κ : Type} [DecidableEq κ] {kvs : List (κ × V)} {k : κ} {v : V} {e : κ × V} (h : e ∈ putK kvs k v) : e = (k, v) ∨ e ∈ kvs := by
  unfold putK at h
  split at h
  · obtain ⟨p, hp, rfl⟩ := List.mem_map.mp h
    by_cases z : p.1 = k
    · rw [if_pos z, ← z]
      exact .inl rfl
    · rw [if_neg z]
      exact .inr hp
  · rcases List.mem_append.mp h with h | h
    · exact .inr h
    · exact .inl (List.mem_singleton.mp h)
def tfOf (kvs : List (D × V)) (q : List Int) : Option Str := match valV kvs (pk q) with
  | some (.str x) => some x
  | _ => none
theorem Kv.tf {n M m : Nat} {hand : Int} {kvs : List (D × V)} (h : Kv n M m hand kvs) {q : List Int} (hq : IsP n q) (hh : hand ∉ q) (hl : q.length ≤ m) : valV kvs (pk q) = some (sg (tfOf kvs q)) := by
  have a := h.all q hq hh hl
  cases e : valV kvs (pk q) with
  | none => rw [e] at a; cases a
  | some v =>
    obtain ⟨q', o, he, _⟩ := h.mem _ (valV_mem e)
    injection he with h1 h2
    subst h2
    unfold tfOf
    rw [e]
    cases o <;> rfl
theorem Kv.nil {n M : Nat} {hand : Int} : Kv n M 0 hand [] := ⟨fun q hq _ hl => by have := hq.pos; omega, fun _ h => nomatch h⟩
theorem IsP.short {n : Nat} {q : List Int} {hand : Int} (h : IsP n q) (hr : 0 ≤ hand ∧ hand < n) (hh : hand ∉ q) : q.length + 1 ≤ n :=
  nodup_len n (hand :: q) (List.nodup_cons.mpr ⟨hh, h.nd⟩) fun x hx => by
    rcases List.mem_cons.mp hx with e | e
    · rw [e]; exact hr
    · exact h.mem x e
theorem Kv.put {n M m : Nat} {hand : Int} {kvs : List (D × V)} (h : Kv n M m hand kvs) {p : List Int} {o : Option Str} (hp : IsP n p) (hh : hand ∉ p) (h3 : p.length ≤ M) (hn : p.length ≤ n - 1) : Kv n M m hand (putK kvs (pk p) (sg o)) := by
  refine ⟨fun q hq hh hl => ?_, fun e he => ?_⟩
  · rw [valV_put]
    split
    · rfl
    · exact h.all q hq hh hl
  · rcases mem_putK he with e1 | e1
    · exact ⟨p, o, e1, hp, hh, h3, hn⟩
    · exact h.mem e e1
theorem put_some {kvs : List (D × V)} {k k' : D} {v : V} (h : (valV kvs k').isSome = true) : (valV (putK kvs k v) k').isSome = true := by
  rw [valV_put]
  split
  · rfl
  · exact h
def spDrawn (P : Program) (w : World) (K : PySem.W.Frag) : Sp := fun vs H Q _ => ∃ (a : Addr) (ns : List Int) (n m : Nat) (hand : Int), vs = [.ref a, .int n, .int m, .int hand] ∧ SqL K H a (ns.map V.int) ∧ 0 < ns.length ∧ ns.length ≤ 63 ∧ TabOk n m ∧ (0 ≤ hand ∧ hand < n) ∧
  ∀ dd H' kvs, H dd = none → Le H H' → ND P w H' dd kvs → Kv n (m + 1) (m + 1) hand kvs → kvs.length ≤ 300 → Q (.ref dd) H'
/-! the hashes of paths differ -/
def allP : List (List Int) := lvlM 10 0 ++ lvlM 10 1 ++ lvlM 10 2
theorem allP_hash : (allP.map hashN).Nodup := by decide +kernel
theorem nodup_map_inj {α β : Type} (f : α → β) : ∀ {l : List α}, (l.map f).Nodup → ∀ {a b : α}, a ∈ l → b ∈ l → f a = f b → a = b
  | [], _, _, _, h, _, _ => nomatch h
  | x :: l, nd, a, b, ha, hb, e => by
    rw [List.map_cons, List.nodup_cons] at nd
    rcases List.mem_cons.mp ha with h1 | h1 <;> rcases List.mem_cons.mp hb with h2 | h2
    · rw [h1, h2]
    · exact absurd (List.mem_map.mpr ⟨b, h2, by rw [← e, h1]⟩) nd.1
    · exact absurd (List.mem_map.mpr ⟨a, h1, by rw [e, h2]⟩) nd.1
    · exact nodup_map_inj f nd.2 h1 h2 e
theorem mem_allP {n : Nat} {q : List Int} (h : IsP n q) (hn : n ≤ 10) (hl : q.length ≤ 3) : q ∈ allP := by
  have h' : IsP 10 q := ⟨h.hd, h.nd, fun x hx => by have := h.mem x hx; omega⟩
  have := h.pos
  unfold allP
  rw [List.mem_append, List.mem_append, mem_lvl (by decide), mem_lvl (by decide), mem_lvl (by decide)]
  rcases (by omega : q.length = 1 ∨ q.length = 2 ∨ q.length = 3) with e | e | e
  · exact .inl (.inl ⟨h', e⟩)
  · exact .inl (.inr ⟨h', e⟩)
  · exact .inr ⟨h', e⟩
theorem hash_nodup {w : World} {kvs : List (D × V)} (nd : (kvs.map (·.1)).Nodup) (h : ∀ e ∈ kvs, ∃ q, e.1 = pk q ∧ q ∈ allP) : (kvs.map fun p => p.1.hash w).Nodup := by
  unfold List.Nodup at nd ⊢
  rw [List.pairwise_map] at nd ⊢
  refine nd.imp_of_mem fun {a b} ha hb hne e => hne ?_
  obtain ⟨q, e1, hq⟩ := h a ha
  obtain ⟨r, e2, hr⟩ := h b hb
  rw [e1, e2] at e ⊢
  unfold pk at e
  rw [hash_nums, hash_nums] at e
  rw [nodup_map_inj hashN allP_hash hq hr e]
theorem valV_of_mem {κ : Type} [DecidableEq κ] : ∀ {kvs : List (κ × V)} {p : κ × V}, (kvs.map (·.1)).Nodup → p ∈ kvs → valV kvs p.1 = some p.2
  | [], _, _, h => nomatch h
  | x :: l, p, nd, h => by
    rw [List.map_cons, List.nodup_cons] at nd
    rcases List.mem_cons.mp h with e | e
    · rw [e, valV_pos rfl]
    · rw [valV_neg (fun z => nd.1 (List.mem_map.mpr ⟨p, e, z.symm⟩))]
      exact valV_of_mem nd.2 e
theorem flatB_sg (o : Option Str) : flatB (sg o) = true := by cases o <;> rfl
theorem Kv.hash {w : World} {n M m : Nat} {hand : Int} {kvs : List (D × V)} (h : Kv n M m hand kvs) (hn : n ≤ 10) (hM : M ≤ 3) (nd : (kvs.map (·.1)).Nodup) : (kvs.map fun p => p.1.hash w).Nodup :=
  hash_nodup nd fun e he => by
    obtain ⟨q, o, h1, h2, _, h3, _⟩ := h.mem e he
    rw [h1]
    exact ⟨q, rfl, mem_allP h2 hn (by omega)⟩
theorem Kv.tups {n M m : Nat} {hand : Int} {kvs : List (D × V)} (h : Kv n M m hand kvs) : ∀ p ∈ kvs, ∃ ks, p.1 = .tup ks := fun e he => by
  obtain ⟨q, o, h1, _⟩ := h.mem e he
  rw [h1]
  exact ⟨_, rfl⟩
theorem Kv.same {n M m : Nat} {hand : Int} {kvs : List (D × V)} (h : Kv n M m hand kvs) (nd : (kvs.map (·.1)).Nodup) : ∀ p ∈ kvs, valV kvs p.1 = some p.2 ∧ flatB p.2 = true := fun e he => by
  refine ⟨valV_of_mem nd he, ?_⟩
  obtain ⟨q, o, h1, _⟩ := h.mem e he
  rw [h1]
  exact flatB_sg o
/-- paths without the hand, as values -/
def Goods (H : Hp) (n m : Nat) (hand : Int) (ys : List V) : Prop := ∀ y ∈ ys, ∃ q, At H (pk q) y ∧ IsP n q ∧ hand ∉ q ∧ q.length ≤ m + 1
theorem Goods.le {H H' : Hp} {n m : Nat} {hand : Int} {ys : List V} (h : Goods H n m hand ys) (l : Le H H') : Goods H' n m hand ys := fun y hy =>
  let ⟨q, h1, h2⟩ := h y hy; ⟨q, h1.le l, h2⟩
theorem Goods.app {H : Hp} {n m : Nat} {hand : Int} {xs ys : List V} (h : Goods H n m hand xs) (g : Goods H n m hand ys) : Goods H n m hand (xs ++ ys) := fun y hy => by
  rcases List.mem_append.mp hy with e | e
  · exact h y e
  · exact g y e
theorem Goods.cut {H : Hp} {n m : Nat} {hand : Int} {xs : List V} {lo hi : Option Int} (h : Goods H n m hand xs) : Goods H n m hand (cutV xs lo hi) := fun y hy => h y (cutV_mem hy)
theorem Kv.goods {H : Hp} {n m k : Nat} {hand : Int} {kvs : List (D × V)} {ks : List V} (h : Kv n (m + 1) k hand kvs) (a : Ats H (kvs.map (·.1)) ks) : Goods H n m hand ks := fun y hy => by
  obtain ⟨i, hi⟩ := List.mem_iff_getElem?.mp hy
  obtain ⟨d, hd, ha⟩ := a.get' hi
  rw [List.getElem?_map] at hd
  obtain ⟨e, he, rfl⟩ := Option.map_eq_some_iff.mp hd
  obtain ⟨q, o, h1, h2, h3, h4, _⟩ := h.mem e (List.mem_of_getElem? he)
  rw [h1] at ha
  exact ⟨q, ha, h2, h3, h4⟩
abbrev s_law_drawn : Stmt := top 13
abbrev n_law_drawn : List Str := ["_law_script", "_law_hands", "_law_most", "_law_hand", "_law_signs_here", "_law_few", "_law_found", "_law_k", "_law_size", "_law_path", "_law_cell", "_law_mixed"]
theorem sc_law_drawn : FnScope ["_law_script", "_law_hands", "_law_most", "_law_hand", "_law_signs_here", "_law_few", "_law_found", "_law_k", "_law_size", "_law_path", "_law_cell", "_law_mixed"] ["_law_script", "_law_hands", "_law_most", "_law_hand"] (defScope s_law_drawn) := ⟨rfl, rfl, rfl, by decide +kernel, rfl, by decide +kernel, by decide +kernel⟩
theorem ok_law_drawn {f f1 f2 f3 : Addr} {fd fd1 fd2 fd3 : FuncData} (F : Fun K "_law_drawn" "_law_drawn" s_law_drawn f fd) (T : Bt mg)
    (c_law_cell_at : Cal P w K mg base CX0 1 "_law_cell_at" ["_law_script", "_law_k"] (spCell K) f1 fd1) (c_law_signs : Cal P w K mg base CX0 1 "_law_signs" ["_law_cell"] spSigns f2 fd2)
    (c_law_paths : Cal P w K mg base CX0 1 "_law_paths" ["_law_hands", "_law_size"] spPaths f3 fd3) : FnOk P w K mg base CX0 2 f fd ["_law_script", "_law_hands", "_law_most", "_law_hand"] (spDrawn P w K) := by
  refine F.ok sc_law_drawn (fun vs H Q E h => ?_) (fun cdv A outer s H vs Q E hr h => ?_)
  · obtain ⟨a, ns, n, m, hand, rfl, _⟩ := h
    rfl
  · obtain ⟨a, ns, n, m, hand, rfl, hS, h0, hl, hT, hrg, q⟩ := h
    have hu := hr.units
    refine ⟨_, (pss_cons (ps_set (i := 4) sc_law_drawn.nd rfl (Or.inl rfl) (pe_op op_cat (pe_own c_law_signs (hr.mono (by omega)) rfl (pa_cons (pe_own c_law_cell_at (hr.mono (by omega)) rfl (pa_cons (pv 0) (pa_cons pe_int pa_nil))) pa_nil)) (pe_lst (pa_cons pe_non pa_nil))))
        (pss_cons (ps_set (i := 5) sc_law_drawn.nd rfl (Or.inl rfl) (pe_op op_add pe_int (pe_op op_mod (pe_own c_law_cell_at (hr.mono (by omega)) rfl (pa_cons (pv 0) (pa_cons pe_int pa_nil))) pe_int)))
        (pss_cons (ps_set (i := 6) sc_law_drawn.nd rfl (Or.inl rfl) pe_nnew)
        (pss_cons (ps_set (i := 7) sc_law_drawn.nd rfl (Or.inl rfl) pe_int)
        (pss_cons (ps_for PassesOwn.never rfl (pi_range2 (by rfl) T.b_range (pa_cons pe_int (pa_cons (pe_op op_add (pv 2) pe_int) pa_nil))) (pg_name (i := 8) sc_law_drawn.nd rfl (Or.inl rfl))
          (pss_one (ps_for PassesOwn.never rfl (pi_listK (K := K) rfl (pe_own c_law_paths (hr.mono (by omega)) rfl (pa_cons (pv 1) (pa_cons (pv 8) pa_nil)))) (pg_name (i := 9) sc_law_drawn.nd rfl (Or.inl rfl))
            (pss_cons (ps_set (i := 7) sc_law_drawn.nd rfl (Or.inl rfl) (pe_op op_add (pv 7) pe_int))
            (pss_one (ps_if (pt_cmpR (notIn_seqK (K := K) rfl) (pv 3) (pv 9) rfl)
              (pss_cons (ps_set (i := 10) sc_law_drawn.nd rfl (Or.inl rfl) (pe_ix (ix_listK (K := K) rfl) (pv 0) (pe_op op_mod (pv 7) (pe_callB (len_seqK (K := K) rfl) (by rfl) T.b_len bb_len (pa_cons (pv 0) pa_nil))) (fun _ _ => rfl)))
                (pss_cons (ps_set (i := 11) sc_law_drawn.nd rfl (Or.inl rfl) (pe_op op_mod (pe_op op_add (pe_op op_add (pv 10) (pe_op op_mul pe_int (pv 7))) (pe_op op_mul (pe_op op_mul (pe_callB (len_seqK (K := K) rfl) (by rfl) T.b_len bb_len (pa_cons (pv 0) pa_nil)) (pv 7)) (pv 7))) pe_int))
                (pss_cons (ps_set (i := 11) sc_law_drawn.nd rfl (Or.inl rfl) (pe_op op_fdiv (pe_op op_mod (pe_op op_mul (pe_op op_mod (pe_op op_mul (pv 11) (pv 11)) pe_int) pe_int) pe_int) pe_int))
                (pss_join (ps_if (pt_cmpR op_eq (pe_op op_mod (pe_op op_fdiv (pe_own c_law_cell_at (hr.mono (by omega)) rfl (pa_cons (pv 0) (pa_cons pe_int pa_nil))) pe_int) pe_int) pe_int (nomark _))
                  (pss_one (ps_set (i := 11) sc_law_drawn.nd rfl (Or.inl rfl) (pe_callB (call_max2 rfl) (by rfl) T.b_max bb_max (pa_cons pe_int (pa_cons (pe_op op_sub (pe_op op_mod (pv 11) pe_int) pe_int) pa_nil)))))
                  pss_nil)
                (pss_one (ps_nputK (P := P) (w := w) rfl rfl hu (pv 6) (pv 9) (pe_ix (ix_listK (K := K) rfl) (pv 4) (pe_op op_mod (pv 11) (pv 5)) (fun _ _ => rfl)) rfl))))))
              pss_nil))))))
        (pss_one (ps_ret (pv 6)))))))), ?_⟩
    walk_at "rg"
    have hm := hT.m2
    refine ⟨a, ns, 1, rfl, hS, by omega, by decide, _, rfl, fun p H1 ss hp l1 hs h4 hg n0 hn0 => ?_⟩
    have hs0 : (L2.upd H1 n0 (.lst [.non])) p = some (.lst (ss.map .str)) := by
      rw [upd_ne (ne_of_none hs hn0)]
      exact hs
    refine ⟨p, n0, _, _, rfl, rfl, hs0, upd_same, ?_, fun p1 hp1 => ?_⟩
    · rw [List.length_map, sizeLine_eq]
      show ss.length + 1 ≤ _
      omega
    generalize hS5 : ss.map some ++ [none] = S5
    have h5 : S5.length = 5 := by
      rw [← hS5, List.length_append, List.length_map, h4]
      rfl
    have e5 : ss.map V.str ++ [V.non] = S5.map sg := by
      rw [← hS5, List.map_append, strs_sg]
      rfl
    rw [e5]
    have l2 : Le H (L2.upd (L2.upd H1 n0 (.lst [.non])) p1 (.lst (S5.map sg))) := (l1.trans (.new hn0)).trans (.new hp1)
    have hp1s : (L2.upd (L2.upd H1 n0 (.lst [.non])) p1 (.lst (S5.map sg))) p1 = some (.lst (S5.map sg)) := upd_same
    generalize (L2.upd (L2.upd H1 n0 (.lst [.non])) p1 (.lst (S5.map sg))) = H2 at l2 hp1s ⊢
    refine ⟨a, ns, 2, rfl, l2.sql hS, by omega, by decide, _, rfl, fun dd hdd hds => ⟨by omega, by omega, ?_⟩⟩
    have hcnt : ((m : Int) + 2 - 1).toNat = m + 1 := by omega
    rw [hcnt]
    generalize hfew : 2 + cell ns 2 % 4 = few
    have hdH : H dd = none := l2.back hdd
    have hpd : p1 ≠ dd := ne_of_none hp1s hdd
    have l3 : Le H (L2.upd H2 dd (raw dd newD)) := l2.trans (.new hdd)
    refine for_it walk_range (fun i σ H' => ∃ (kk : Nat) (v8 v9 v10 v11 : Option V), σ = [some (.ref a), some (.int n), some (.int m), some (.int hand), some (.ref p1), some (.int few), some (.ref dd), some (.int kk), v8, v9, v10, v11] ∧ Le H H' ∧ H' p1 = some (.lst (S5.map sg)) ∧ ∃ kvs, ND P w H' dd kvs ∧ Kv n (m + 1) i hand kvs ∧ kk ≤ 100 * i ∧ kvs.length ≤ kk)
      ⟨0, _, _, _, _, rfl, l3, by rw [upd_ne hpd]; exact hp1s, [], ⟨hds, _, upd_same, newD_ND P w _⟩, .nil, by omega, Nat.le_refl _⟩ (fun _ _ _ _ _ => True.intro) ?_ ?_
    · rintro i x σ H3 H4 hi ⟨kk, v8, v9, v10, v11, rfl, l4, g1, kvs, gN, gK, gk, gl⟩ ⟨rfl, rfl⟩
      walk_at "rg"
      refine ⟨n, i + 1, by simp [Int.add_comm], hT.n2, hT.n10, by omega, by omega, fun D1 H5 ys hD1 l5 hys hA => ?_⟩
      have hD1d : D1 ≠ dd := fun e => by
        obtain ⟨_, o, ho, _⟩ := gN
        rw [← e, hD1] at ho
        cases ho
      refine ⟨D1, rfl, ⟨_, .of hys⟩, ?_⟩
      have hyl := hA.length
      rw [List.length_map] at hyl
      have hpl := paths_length (n := n) (k := i + 1) hT.n10 (by omega)
      refine for_it (walk_listN hyl) (fun j σ H' => ∃ (kk' : Nat) (v9 v10 v11 : Option V), σ = [some (.ref a), some (.int n), some (.int m), some (.int hand), some (.ref p1), some (.int few), some (.ref dd), some (.int kk'), some (.int (1 + i)), v9, v10, v11] ∧ Le H H' ∧ H' p1 = some (.lst (S5.map sg)) ∧ H' D1 = some (.lst ys) ∧ Ats H' ((pathsM n (i + 1)).map pk) ys ∧ ∃ kvs, ND P w H' dd kvs ∧ Kv n (m + 1) i hand kvs ∧ (∀ q ∈ (pathsM n (i + 1)).take j, hand ∉ q → (valV kvs (pk q)).isSome = true) ∧ kk' ≤ 100 * i + j ∧ kvs.length ≤ kk')
        ⟨kk, _, _, _, rfl, l4.trans l5, l5.lst g1, hys, hA, kvs, gN.le l5, gK, (fun q hq => by simp at hq), by omega, gl⟩ (fun j σ H' _ ⟨_, _, _, _, _, _, _, g, _⟩ => .of g) ?_ ?_
      · rintro j x σ H6 H7 hj ⟨kk', v9, v10, v11, rfl, l6, g1, gD, gA, kvs, gN, gK, gq, gk, gl⟩ ⟨rfl, hx⟩
        obtain ⟨d, hd, hAx⟩ := gA.get' hx
        rw [List.getElem?_map] at hd
        obtain ⟨pp, hpp, rfl⟩ := Option.map_eq_some_iff.mp hd
        obtain ⟨b, rfl, hb⟩ := pk_of hAx
        obtain ⟨hpP, hpL, hpN⟩ := (mem_paths hT.n2 (by omega)).mp (List.mem_of_getElem? hpp)
        have htk : (pathsM n (i + 1)).take (j + 1) = (pathsM n (i + 1)).take j ++ [pp] := by
          rw [List.take_add_one, hpp]
          rfl
        walk_at "rg"
        refine ⟨b, _, rfl, .inr (.of hb), rfl, ints_flat pp, ?_⟩
        rw [inV_ints]
        refine ⟨_, rfl, ?_⟩
        have gq' : hand ∈ pp → ∀ q ∈ (pathsM n (i + 1)).take (j + 1), hand ∉ q → (valV kvs (pk q)).isSome = true := fun hc q hq hh => by
          rw [htk] at hq
          rcases List.mem_append.mp hq with h | h
          · exact gq q h hh
          · rw [List.mem_singleton.mp h] at hh
            exact absurd hc hh
        by_cases hc : hand ∈ pp
        · rw [decide_eq_true hc]
          exact iteF ⟨kk' + 1, by omega, l6, g1, gD, gA, kvs, gN, gK, gq' hc, by omega, by omega⟩
        · rw [decide_eq_false hc]
          refine iteT ⟨a, _, rfl, .inl (l6.sql hS), _, rfl, ?_⟩
          rw [List.length_map]
          have m0 : 0 ≤ ((kk' : Int) + 1) % (ns.length : Int) := Int.emod_nonneg _ (by omega)
          have m1 : ((kk' : Int) + 1) % (ns.length : Int) < ns.length := Int.emod_lt_of_pos _ (by omega)
          generalize hix : ((kk' : Int) + 1) % (ns.length : Int) = ix at m0 m1
          refine ⟨by omega, a, _, _, .int (ns[ix.toNat]'(by omega)), rfl, rfl, l6.sql hS, at_of (j := ix.toNat) (by omega) (by rw [List.getElem?_map, List.getElem?_eq_getElem (by omega)]; rfl), _, rfl, a, _, rfl, .inl (l6.sql hS), _, rfl, ?_⟩
          rw [List.length_map]
          refine ⟨by omega, by omega, by omega, fun σ' H' => ∃ z : Int, σ' = [some (.ref a), some (.int n), some (.int m), some (.int hand), some (.ref p1), some (.int few), some (.ref dd), some (.int (kk' + 1)), some (.int (1 + i)), some (.ref b), some (.int (ns[ix.toNat]'(by omega))), some (.int z)] ∧ H' = H7, ?_, ?_⟩
          · walk_at "rg"
            exact ⟨a, ns, 2, rfl, l6.sql hS, by omega, by decide, _, rfl, by split <;> rfl⟩
          · rintro σ' H' ⟨z, rfl, rfl⟩
            walk_at "rg"
            have z0 : 0 ≤ z % few := Int.emod_nonneg _ (by omega)
            have z1 : z % few < few := Int.emod_lt_of_pos _ (by omega)
            refine ⟨by omega, p1, _, _, sg (S5[(z % few).toNat]'(by omega)), rfl, rfl, .of g1, at_of (j := (z % few).toNat) (by omega) (by rw [List.getElem?_map, List.getElem?_eq_getElem (by omega)]; rfl), ?_⟩
            generalize S5[(z % few).toNat]'(by omega) = o
            have hlt : kvs.length < sizeLine := Nat.lt_of_le_of_lt (by omega : kvs.length ≤ 1000) (by rw [sizeLine_eq]; decide)
            refine .inr ⟨kvs, pk pp, b, gN, rfl, pk_at hb, pk_depth pp, hlt, fun o' ho' => ?_⟩
            obtain ⟨_, ob, hob, _⟩ := id gN
            have hD1n : D1 ≠ dd := hD1d
            have tp : Tups H' (L2.upd H' dd (raw dd o')) := tups_upd hob (fun _ z => nomatch z)
            refine ⟨kk' + 1, by omega, l6.mut hdH, by rw [upd_ne hpd]; exact g1, by rw [upd_ne hD1n]; exact gD, gA.keep tp _ _, _, ⟨hds, o', upd_same, ho'.tp tp⟩, gK.put hpP hc (by omega) (by omega), fun q' hq' hh' => ?_, by omega, ?_⟩
            · rw [htk] at hq'
              rcases List.mem_append.mp hq' with h | h
              · exact put_some (gq q' h hh')
              · rw [List.mem_singleton.mp h, valV_put, if_pos rfl]
                rfl
            · have := length_putK kvs (pk pp) (sg o)
              omega
      · rintro σ H6 ⟨kk', v9, v10, v11, rfl, l6, g1, gD, gA, kvs, gN, gK, gq, gk, gl⟩
        refine ⟨kk', _, _, _, _, rfl, l6, g1, kvs, gN, ⟨fun q hq hh hl => ?_, gK.mem⟩, by omega, gl⟩
        by_cases e : q.length ≤ i
        · exact gK.all q hq hh e
        · refine gq q ?_ hh
          rw [← List.length_map (f := pk), ← hA.length, hyl, List.take_length]
          have hmem := mem_paths hT.n2 (k := i + 1) (p := q) (by omega)
          have h2 := hq.short hrg hh
          exact hmem.mpr ⟨hq, by omega, by omega⟩
    · rintro σ H3 ⟨kk, v8, v9, v10, v11, rfl, l4, g1, kvs, gN, gK, gk, gl⟩
      exact ⟨_, rfl, q dd H3 kvs hdH l4 gN gK (by omega)⟩
def spLaw (K : PySem.W.Frag) : Sp := fun vs H Q _ => ∃ (a : Addr) (ns : List Int), vs = [.ref a] ∧ SqL K H a (ns.map V.int) ∧ ns.length ≤ 63 ∧ ∀ H', Q (.bl true) H'
abbrev s_law : Stmt := top 14
abbrev n_law : List Str := ["_law_script", "_law_hands", "_law_most", "_law_hand", "_law_told", "_law_kept", "_law_listed", "_law_turn", "_law_path", "_law_due"]
theorem sc_law : FnScope ["_law_script", "_law_hands", "_law_most", "_law_hand", "_law_told", "_law_kept", "_law_listed", "_law_turn", "_law_path", "_law_due"] ["_law_script"] (defScope s_law) := ⟨rfl, rfl, rfl, by decide +kernel, rfl, by decide +kernel, by decide +kernel⟩
theorem ok_law {f f1 f2 f3 f4 f5 f6 : Addr} {fd fd1 fd2 fd3 fd4 fd5 fd6 : FuncData} (F : Fun K "law" "law" s_law f fd) (T : Bt mg)
    (c_settled : Cal P w K mg base CX0 5 "settled" ["hands", "most", "told", "hand", "path"] (spSettled P w 3) f1 fd1) (c_law_cell_at : Cal P w K mg base CX0 1 "_law_cell_at" ["_law_script", "_law_k"] (spCell K) f2 fd2)
    (c_law_table : Cal P w K mg base CX0 1 "_law_table" ["_law_cell"] spTable f3 fd3) (c_law_settled : Cal P w K mg base CX0 5 "_law_settled" ["_law_hands", "_law_most", "_law_told", "_law_hand", "_law_path"] (spSettled P w 3) f4 fd4)
    (c_law_same : Cal P w K mg base CX0 1 "_law_same" ["_law_found", "_law_due"] spSame f5 fd5) (c_law_drawn : Cal P w K mg base CX0 2 "_law_drawn" ["_law_script", "_law_hands", "_law_most", "_law_hand"] (spDrawn P w K) f6 fd6) : FnOk P w K mg base CX0 6 f fd ["_law_script"] (spLaw K) := by
  refine F.ok sc_law (fun vs H Q E h => ?_) (fun cdv A outer s H vs Q E hr h => ?_)
  · obtain ⟨a, ns, rfl, _⟩ := h
    rfl
  · obtain ⟨a, ns, rfl, hS, hl, q⟩ := h
    have hu := hr.units
    refine ⟨_, (pss_cons (ps_if (pt_cmpR op_eq (pe_callB (len_seqK (K := K) rfl) (by rfl) T.b_len bb_len (pa_cons (pv 0) pa_nil)) pe_int (nomark _))
          (pss_one (ps_ret pe_bl))
          pss_nil)
        (pss_cons (ps_asg (pe_own c_law_table (hr.mono (by omega)) rfl (pa_cons (pe_own c_law_cell_at (hr.mono (by omega)) rfl (pa_cons (pv 0) (pa_cons pe_int pa_nil))) pa_nil)) (pg_tupK (K := K) (n := 2) rfl rfl (pgs_cons (pg_name (i := 1) sc_law.nd rfl (Or.inl rfl)) (pgs_cons (pg_name (i := 2) sc_law.nd rfl (Or.inl rfl)) pgs_nil))))
        (pss_cons (ps_set (i := 3) sc_law.nd rfl (Or.inl rfl) (pe_op op_add pe_int (pe_op op_mod (pe_own c_law_cell_at (hr.mono (by omega)) rfl (pa_cons (pv 0) (pa_cons pe_int pa_nil))) (pe_op op_sub (pv 1) pe_int))))
        (pss_cons (ps_set (i := 4) sc_law.nd rfl (Or.inl rfl) (pe_own c_law_drawn (hr.mono (by omega)) rfl (pa_cons (pv 0) (pa_cons (pv 1) (pa_cons (pv 2) (pa_cons (pv 3) pa_nil))))))
        (pss_cons (ps_set (i := 5) sc_law.nd rfl (Or.inl rfl) (pe_callTy (dictNK (P := P) (w := w) rfl rfl hu) (by rfl) T.b_dict bb_dict (pa_cons (pv 4) pa_nil)))
        (pss_cons (ps_set (i := 6) sc_law.nd rfl (Or.inl rfl) (pe_callTy (call_listN rfl) (by rfl) T.b_list bb_list (pa_cons (pv 5) pa_nil)))
        (pss_cons (ps_set (i := 7) sc_law.nd rfl (Or.inl rfl) (pe_op op_mod (pe_own c_law_cell_at (hr.mono (by omega)) rfl (pa_cons (pv 0) (pa_cons pe_int pa_nil))) (pe_callB (len_seqK (K := K) rfl) (by rfl) T.b_len bb_len (pa_cons (pv 6) pa_nil))))
        (pss_cons (ps_set (i := 6) sc_law.nd rfl (Or.inl rfl) (pe_op op_cat (pe_slice (sl_listK (K := K) rfl) (pv 6) (po_some (pv 7)) po_none) (pe_slice (sl_listK (K := K) rfl) (pv 6) po_none (po_some (pv 7)))))
        (pss_join (ps_if (pt_cmpR op_gt (pv 1) pe_int (nomark _))
          (pss_one (ps_set (i := 6) sc_law.nd rfl (Or.inl rfl) (pe_op op_cat (pe_slice (sl_listK (K := K) rfl) (pv 6) po_none (po_some pe_int)) (pe_lst (pa_cons (pe_tup (pa_cons pe_int pa_nil)) pa_nil)))))
          pss_nil)
        (pss_cons (ps_for PassesOwn.never rfl (pi_listK (K := K) rfl (pv 6)) (pg_name (i := 8) sc_law.nd rfl (Or.inl rfl))
          (pss_cons (ps_set (i := 9) sc_law.nd rfl (Or.inl rfl) (pe_own c_law_settled (hr.mono (by omega)) rfl (pa_cons (pv 1) (pa_cons (pv 2) (pa_cons (pv 5) (pa_cons (pv 3) (pa_cons (pv 8) pa_nil)))))))
          (pss_one (ps_if (PW.pt (pw_or (pt_not (pt_val (pe_own c_law_same (hr.mono (by omega)) rfl (pa_cons (pe_own c_settled (hr.mono (by omega)) rfl (pa_cons (pv 1) (pa_cons (pv 2) (pa_cons (pv 4) (pa_cons (pv 3) (pa_cons (pv 8) pa_nil)))))) (pa_cons (pv 9) pa_nil))))) (pw_or1 (pt_cmpR op_ne (pe_callB call_lenN (by rfl) T.b_len bb_len (pa_cons (pv 4) pa_nil)) (pe_callB call_lenN (by rfl) T.b_len bb_len (pa_cons (pv 5) pa_nil)) (nomark _)))))
            (pss_one (ps_ret pe_bl))
            pss_nil))))
        (pss_one (ps_ret (pe_cmpR (eqNK (P := P) (w := w) rfl rfl hu) (pv 4) (pv 5) (nomark _)))))))))))))), ?_⟩
    walk_at "rg"
    refine ⟨a, _, rfl, .inl hS, rfl, ?_⟩
    rw [List.length_map, dec_int]
    refine ite2 (fun hc => q _) (fun hc => ?_)
    have hc : ns.length ≠ 0 := fun z => hc (by rw [z]; rfl)
    refine ⟨a, ns, 0, rfl, hS, hl, by decide, _, rfl, fun p H1 n m l1 hp hT => ⟨p, rfl, _, .of hp, rfl, _, _, rfl, _, _, rfl, rfl, ?_⟩⟩
    have h2 := hT.n2
    refine ⟨a, ns, 3, rfl, l1.sql hS, hl, by decide, _, rfl, _, rfl, by omega, ?_⟩
    have hd0 : 0 ≤ cell ns 3 % ((n : Int) - 1) := Int.emod_nonneg _ (by omega)
    have hd1 : cell ns 3 % ((n : Int) - 1) < (n : Int) - 1 := Int.emod_lt_of_pos _ (by omega)
    generalize hhd : 1 + cell ns 3 % ((n : Int) - 1) = hand
    refine ⟨a, ns, n, m, hand, rfl, l1.sql hS, by omega, hl, hT, by omega, fun t H2 kvs ht0 l2 hN hK h300 => ?_⟩
    have hm2 := hT.m2
    have h10 := hT.n10
    have nd := hN.nodup
    refine ⟨t, kvs, rfl, hN, hK.hash h10 (by omega) nd, hK.tups, fun t2 o2 ht2 hs2 ho2 => ?_⟩
    obtain ⟨ks, hks, hkA⟩ := keys_ND ho2
    have l02 := (l1.trans l2).trans (.new ht2 (o := raw t2 o2))
    have hkl := hkA.length
    rw [List.length_map] at hkl
    have hk0 : 0 < kvs.length := by
      have h0 := hK.all [0] (.zero (by omega)) (by rw [List.mem_singleton]; omega) (by show 1 ≤ _; omega)
      cases hz : kvs with
      | nil => rw [hz] at h0; cases h0
      | cons x r => simp
    have s300 : ∀ z : Nat, z ≤ 1000 → z ≤ sizeLine := fun z hz => by rw [sizeLine_eq]; omega
    refine ⟨t2, o2, ks, rfl, upd_same, hks, hs2, s300 _ (by omega), fun l6 hl6 => ?_⟩
    have l03 := l02.trans (.new hl6 (o := .lst ks))
    have tp1 : Tups H2 (L2.upd H2 t2 (raw t2 o2)) := (Le.new ht2).tups
    have hN1 : ND P w (L2.upd (L2.upd H2 t2 (raw t2 o2)) l6 (.lst ks)) t kvs := (hN.le (.new ht2)).le (.new hl6)
    have hN2 : ND P w (L2.upd (L2.upd H2 t2 (raw t2 o2)) l6 (.lst ks)) t2 kvs := ND.le ⟨hs2, o2, upd_same, ho2.tp tp1⟩ (.new hl6)
    have hkA2 : Ats (L2.upd (L2.upd H2 t2 (raw t2 o2)) l6 (.lst ks)) (kvs.map (·.1)) ks := (hkA.le (.new ht2)).le (.new hl6)
    have hl6s : (L2.upd (L2.upd H2 t2 (raw t2 o2)) l6 (.lst ks)) l6 = some (.lst ks) := upd_same
    generalize (L2.upd (L2.upd H2 t2 (raw t2 o2)) l6 (.lst ks)) = H4 at l03 hN1 hN2 hkA2 hl6s ⊢
    have hG := hK.goods hkA2
    refine ⟨a, ns, 4, rfl, l03.sql hS, hl, by decide, l6, _, rfl, .inl (.of hl6s), _, rfl, _, rfl, by omega, ?_⟩
    generalize cell ns 4 % (ks.length : Int) = tt
    refine ⟨l6, _, rfl, .of hl6s, fun s1 hs1 => ⟨l6, _, rfl, .of (by rw [upd_ne (ne_of_none hl6s hs1)]; exact hl6s), fun s2 hs2 => ?_⟩⟩
    have hs1s : (L2.upd (L2.upd H4 s1 (.lst (cutV ks (some tt) none))) s2 (.lst (cutV ks none (some tt)))) s1 = some (.lst (cutV ks (some tt) none)) := by
      rw [upd_ne (ne_of_none (H := L2.upd H4 s1 (.lst (cutV ks (some tt) none))) upd_same hs2)]
      exact upd_same
    have c1 := cutV_length ks (some tt) none
    have c2 := cutV_length ks none (some tt)
    refine ⟨s1, s2, _, _, rfl, rfl, hs1s, upd_same, s300 _ (by omega), fun s3 hs3 => ?_⟩
    have l04 := ((Le.new hs1 (o := .lst (cutV ks (some tt) none))).trans (.new hs2 (o := .lst (cutV ks none (some tt))))).trans (.new hs3 (o := .lst (cutV ks (some tt) none ++ cutV ks none (some tt))))
    have hs3s : (L2.upd (L2.upd (L2.upd H4 s1 (.lst (cutV ks (some tt) none))) s2 (.lst (cutV ks none (some tt)))) s3 (.lst (cutV ks (some tt) none ++ cutV ks none (some tt)))) s3 = some (.lst (cutV ks (some tt) none ++ cutV ks none (some tt))) := upd_same
    generalize (L2.upd (L2.upd (L2.upd H4 s1 (.lst (cutV ks (some tt) none))) s2 (.lst (cutV ks none (some tt)))) s3 (.lst (cutV ks (some tt) none ++ cutV ks none (some tt)))) = H5 at l04 hs3s ⊢
    have hG5 : Goods H5 n m hand (cutV ks (some tt) none ++ cutV ks none (some tt)) := ((hG.cut).app hG.cut).le l04
    have hzl : (cutV ks (some tt) none ++ cutV ks none (some tt)).length ≤ 600 := by rw [List.length_append]; omega
    generalize (cutV ks (some tt) none ++ cutV ks none (some tt)) = zs at hs3s hG5 hzl
    have l05 := l03.trans l04
    have hN5 := hN1.le l04
    have hN6 := hN2.le l04
    refine ⟨fun σ' H' => ∃ (sl : Addr) (ys : List V), σ' = [some (.ref a), some (.int n), some (.int m), some (.int hand), some (.ref t), some (.ref t2), some (.ref sl), some (.int tt), none, none] ∧ Le H5 H' ∧ H' sl = some (.lst ys) ∧ Goods H' n m hand ys, ?_, ?_⟩
    · walk_at "rg"
      refine ite2 (fun hc => ?_) (fun hc => ?_)
      · refine ⟨s3, zs, rfl, .of hs3s, fun u1 hu1 u2 hu2 u3 hu3 => ?_⟩
        have c3 := cutV_length zs none (some 12)
        have e1 : (L2.upd (L2.upd (L2.upd H5 u1 (.lst (cutV zs none (some 12)))) u2 (.tup [.int 0])) u3 (.lst [.ref u2])) u1 = some (.lst (cutV zs none (some 12))) := (((Le.new hu2).trans (.new hu3)).lst upd_same)
        refine ⟨u1, u3, _, _, rfl, rfl, e1, upd_same, s300 _ ?_, fun u4 hu4 => ⟨u4, rfl, (((Le.new hu1).trans (.new hu2)).trans (.new hu3)).trans (.new hu4), _, upd_same, ?_⟩⟩
        · show _ + 1 ≤ _
          omega
        · refine Goods.app ((hG5.cut).le ((((Le.new hu1).trans (.new hu2)).trans (.new hu3)).trans (.new hu4))) fun y hy => ?_
          rw [List.mem_singleton.mp hy]
          refine ⟨[0], pk_at (((Le.new hu3).trans (.new hu4)).tup upd_same), .zero (by omega), by rw [List.mem_singleton]; omega, by show 1 ≤ _; omega⟩
      · exact ⟨.refl _, zs, hs3s, hG5⟩
    · rintro σ' H' ⟨sl, ys, rfl, l6', hsl, hGy⟩
      walk_at "rg"
      refine ⟨⟨_, .of hsl⟩, for_it (walk_listN rfl) (fun i σ H' => ∃ (v8 v9 : Option V), σ = [some (.ref a), some (.int n), some (.int m), some (.int hand), some (.ref t), some (.ref t2), some (.ref sl), some (.int tt), v8, v9] ∧ Le H5 H' ∧ H' sl = some (.lst ys) ∧ Goods H' n m hand ys)
        ⟨_, _, rfl, l6', hsl, hGy⟩ (fun i σ H' _ ⟨_, _, _, _, g, _⟩ => .of g) ?_ ?_⟩
      · rintro i x σ H6 H7 hi ⟨v8, v9, rfl, l7, g1, hGy⟩ ⟨rfl, hx⟩
        obtain ⟨pp, hAp, hpP, hpH, hpL⟩ := hGy x (List.mem_of_getElem? hx)
        obtain ⟨b, rfl, hb⟩ := pk_of hAp
        walk_at "rg"
        have hTf : ∀ t' H', ND P w H' t' kvs → Hold P w H' t' n m hand (tfOf kvs) := fun t' H' e => ⟨kvs, e, fun q hq hh hl => hK.tf hq hh hl⟩
        refine ⟨n, m, m + 1 - pp.length, t2, b, hand, pp, tfOf kvs, by have := hpP.pos; omega, rfl, by omega, hb, hpP, hpH, by omega, hTf _ _ (hN6.le l7), fun H8 l8 => ?_⟩
        refine ⟨n, m, m + 1 - pp.length, t, b, hand, pp, tfOf kvs, by have := hpP.pos; omega, rfl, by omega, l8.tup hb, hpP, hpH, by omega, hTf _ _ (hN5.le (l7.trans l8)), fun H9 l9 => ?_⟩
        refine ⟨_, _, rfl, ?_⟩
        rw [decide_eq_true rfl]
        have l10 := (l7.trans l8).trans l9
        obtain ⟨hsA, oA, hoA, iA⟩ := hN5.le l10
        obtain ⟨hsB, oB, hoB, iB⟩ := hN6.le l10
        refine ⟨true, rfl, iteF ⟨t, oA, _, rfl, hoA, size_ND iA, hsA, s300 _ (by omega), t2, oB, _, rfl, hoB, size_ND iB, hsB, s300 _ (by omega), rfl, ?_⟩⟩
        rw [decide_eq_true rfl]
        exact iteF ⟨l10, (l8.trans l9).lst g1, hGy.le (l8.trans l9)⟩
      · rintro σ H6 ⟨v8, v9, rfl, l7, g1, hGy⟩
        walk_at "rg"
        exact ⟨t, t2, kvs, kvs, rfl, rfl, hN5.le l7, hN6.le l7, rfl, hK.same nd, q _⟩
end
theorem all_mk {l : PySem.W.OpenLaw} {w : World} {K : PySem.W.Frag} {h : Heap} {mg : Str → Option Value} {fa f1 f2 f3 f4 f5 f6 f7 f8 f9 f10 f11 f12 : Addr} (X : K.In h) (G : h.Ns mainGlobals mg) (hfa : mg "law" = some (.ref fa))
    {od1 an1 od2 an2 od3 an3 od4 an4 od5 an5 od6 an6 od7 an7 od8 an8 od9 an9 od10 an10 od11 an11 od12 an12 : Option Addr} {sl1 sl2 sl3 sl4 sl5 sl6 sl7 sl8 sl9 sl10 sl11 sl12 : Array (Option Value)} {oc1 kV1 dc1 pm1 cd1 ct1 oc2 kV2 dc2 pm2 cd2 ct2 oc3 kV3 dc3 pm3 cd3 ct3 oc4 kV4 dc4 pm4 cd4 ct4 oc5 kV5 dc5 pm5 cd5 ct5 oc6 kV6 dc6 pm6 cd6 ct6 oc7 kV7 dc7 pm7 cd7 ct7 oc8 kV8 dc8 pm8 cd8 ct8 oc9 kV9 dc9 pm9 cd9 ct9 oc10 kV10 dc10 pm10 cd10 ct10 oc11 kV11 dc11 pm11 cd11 ct11 oc12 kV12 dc12 pm12 cd12 ct12 : Value}
    (a1 : PySem.W.nsIn K mainGlobals "hearers" = some (some (.ref f1))) (l1 : K.lookup f1 = some ⟨oc1, od1, .func (PySem.W.fnOf "hearers" "hearers" (defArgs s_hearers) (defBody s_hearers) (defScope s_hearers) .none kV1 dc1 pm1 an1 cd1 ct1), sl1⟩) (c1 : PySem.W.codeIn K cd1 "hearers" = true) (k1 : PySem.W.keepIn K (.ref f1) = true)
    (a2 : PySem.W.nsIn K mainGlobals "vote" = some (some (.ref f2))) (l2 : K.lookup f2 = some ⟨oc2, od2, .func (PySem.W.fnOf "vote" "vote" (defArgs s_vote) (defBody s_vote) (defScope s_vote) .none kV2 dc2 pm2 an2 cd2 ct2), sl2⟩) (c2 : PySem.W.codeIn K cd2 "vote" = true) (k2 : PySem.W.keepIn K (.ref f2) = true)
    (a3 : PySem.W.nsIn K mainGlobals "settled" = some (some (.ref f3))) (l3 : K.lookup f3 = some ⟨oc3, od3, .func (PySem.W.fnOf "settled" "settled" (defArgs s_settled) (defBody s_settled) (defScope s_settled) .none kV3 dc3 pm3 an3 cd3 ct3), sl3⟩) (c3 : PySem.W.codeIn K cd3 "settled" = true) (k3 : PySem.W.keepIn K (.ref f3) = true)
    (a4 : PySem.W.nsIn K mainGlobals "_law_cell_at" = some (some (.ref f4))) (l4 : K.lookup f4 = some ⟨oc4, od4, .func (PySem.W.fnOf "_law_cell_at" "_law_cell_at" (defArgs s_law_cell_at) (defBody s_law_cell_at) (defScope s_law_cell_at) .none kV4 dc4 pm4 an4 cd4 ct4), sl4⟩) (c4 : PySem.W.codeIn K cd4 "_law_cell_at" = true) (k4 : PySem.W.keepIn K (.ref f4) = true)
    (a5 : PySem.W.nsIn K mainGlobals "_law_signs" = some (some (.ref f5))) (l5 : K.lookup f5 = some ⟨oc5, od5, .func (PySem.W.fnOf "_law_signs" "_law_signs" (defArgs s_law_signs) (defBody s_law_signs) (defScope s_law_signs) .none kV5 dc5 pm5 an5 cd5 ct5), sl5⟩) (c5 : PySem.W.codeIn K cd5 "_law_signs" = true) (k5 : PySem.W.keepIn K (.ref f5) = true)
    (a6 : PySem.W.nsIn K mainGlobals "_law_table" = some (some (.ref f6))) (l6 : K.lookup f6 = some ⟨oc6, od6, .func (PySem.W.fnOf "_law_table" "_law_table" (defArgs s_law_table) (defBody s_law_table) (defScope s_law_table) .none kV6 dc6 pm6 an6 cd6 ct6), sl6⟩) (c6 : PySem.W.codeIn K cd6 "_law_table" = true) (k6 : PySem.W.keepIn K (.ref f6) = true)
    (a7 : PySem.W.nsIn K mainGlobals "_law_paths" = some (some (.ref f7))) (l7 : K.lookup f7 = some ⟨oc7, od7, .func (PySem.W.fnOf "_law_paths" "_law_paths" (defArgs s_law_paths) (defBody s_law_paths) (defScope s_law_paths) .none kV7 dc7 pm7 an7 cd7 ct7), sl7⟩) (c7 : PySem.W.codeIn K cd7 "_law_paths" = true) (k7 : PySem.W.keepIn K (.ref f7) = true)
    (a8 : PySem.W.nsIn K mainGlobals "_law_vote" = some (some (.ref f8))) (l8 : K.lookup f8 = some ⟨oc8, od8, .func (PySem.W.fnOf "_law_vote" "_law_vote" (defArgs s_law_vote) (defBody s_law_vote) (defScope s_law_vote) .none kV8 dc8 pm8 an8 cd8 ct8), sl8⟩) (c8 : PySem.W.codeIn K cd8 "_law_vote" = true) (k8 : PySem.W.keepIn K (.ref f8) = true)
    (a9 : PySem.W.nsIn K mainGlobals "_law_settled" = some (some (.ref f9))) (l9 : K.lookup f9 = some ⟨oc9, od9, .func (PySem.W.fnOf "_law_settled" "_law_settled" (defArgs s_law_settled) (defBody s_law_settled) (defScope s_law_settled) .none kV9 dc9 pm9 an9 cd9 ct9), sl9⟩) (c9 : PySem.W.codeIn K cd9 "_law_settled" = true) (k9 : PySem.W.keepIn K (.ref f9) = true)
    (a10 : PySem.W.nsIn K mainGlobals "_law_same" = some (some (.ref f10))) (l10 : K.lookup f10 = some ⟨oc10, od10, .func (PySem.W.fnOf "_law_same" "_law_same" (defArgs s_law_same) (defBody s_law_same) (defScope s_law_same) .none kV10 dc10 pm10 an10 cd10 ct10), sl10⟩) (c10 : PySem.W.codeIn K cd10 "_law_same" = true) (k10 : PySem.W.keepIn K (.ref f10) = true)
    (a11 : PySem.W.nsIn K mainGlobals "_law_drawn" = some (some (.ref f11))) (l11 : K.lookup f11 = some ⟨oc11, od11, .func (PySem.W.fnOf "_law_drawn" "_law_drawn" (defArgs s_law_drawn) (defBody s_law_drawn) (defScope s_law_drawn) .none kV11 dc11 pm11 an11 cd11 ct11), sl11⟩) (c11 : PySem.W.codeIn K cd11 "_law_drawn" = true) (k11 : PySem.W.keepIn K (.ref f11) = true)
    (a12 : PySem.W.nsIn K mainGlobals "law" = some (some (.ref f12))) (l12 : K.lookup f12 = some ⟨oc12, od12, .func (PySem.W.fnOf "law" "law" (defArgs s_law) (defBody s_law) (defScope s_law) .none kV12 dc12 pm12 an12 cd12 ct12), sl12⟩) (c12 : PySem.W.codeIn K cd12 "law" = true) (k12 : PySem.W.keepIn K (.ref f12) = true)
    (z_range : PySem.W.nsIn K mainGlobals "range" = some none)
    (z_str : PySem.W.nsIn K mainGlobals "str" = some none)
    (z_int : PySem.W.nsIn K mainGlobals "int" = some none)
    (z_bool : PySem.W.nsIn K mainGlobals "bool" = some none)
    (z_list : PySem.W.nsIn K mainGlobals "list" = some none)
    (z_tuple : PySem.W.nsIn K mainGlobals "tuple" = some none)
    (z_dict : PySem.W.nsIn K mainGlobals "dict" = some none)
    (z_set : PySem.W.nsIn K mainGlobals "set" = some none)
    (z_enumerate : PySem.W.nsIn K mainGlobals "enumerate" = some none)
    (z_len : PySem.W.nsIn K mainGlobals "len" = some none)
    (z_isinstance : PySem.W.nsIn K mainGlobals "isinstance" = some none)
    (z_min : PySem.W.nsIn K mainGlobals "min" = some none)
    (z_max : PySem.W.nsIn K mainGlobals "max" = some none)
    (z_sum : PySem.W.nsIn K mainGlobals "sum" = some none)
    (z_all : PySem.W.nsIn K mainGlobals "all" = some none) :
    ∃ fd : FuncData, (∀ (s : Shared) (v : Value), BindsTo s fd ⟨[v], []⟩ [("_law_script", v)]) ∧ ∀ base : Heap, K.In base → base.Ns mainGlobals mg → FnOk l.prog w K mg base CX0 6 fa fd ["_law_script"] (spLaw K) := by
  have e := hfa.symm.trans (PySem.W.mg_of X G a12)
  cases e
  have T : Bt mg := ⟨PySem.W.mg_none_of X G z_range, PySem.W.mg_none_of X G z_str, PySem.W.mg_none_of X G z_int, PySem.W.mg_none_of X G z_bool, PySem.W.mg_none_of X G z_list, PySem.W.mg_none_of X G z_tuple, PySem.W.mg_none_of X G z_dict, PySem.W.mg_none_of X G z_set, PySem.W.mg_none_of X G z_enumerate, PySem.W.mg_none_of X G z_len, PySem.W.mg_none_of X G z_isinstance, PySem.W.mg_none_of X G z_min, PySem.W.mg_none_of X G z_max, PySem.W.mg_none_of X G z_sum, PySem.W.mg_none_of X G z_all⟩
  have F1 := fun_mk (st := s_hearers) l1 c1 k1
  have b1 := F1.binds (ps := ["hands", "path"]) fun _ _ _ _ _ _ us hl => match us, hl with | [_, _], _ => rfl
  have F2 := fun_mk (st := s_vote) l2 c2 k2
  have b2 := F2.binds (ps := ["signs"]) fun _ _ _ _ _ _ us hl => match us, hl with | [_], _ => rfl
  have F3 := fun_mk (st := s_settled) l3 c3 k3
  have b3 := F3.binds (ps := ["hands", "most", "told", "hand", "path"]) fun _ _ _ _ _ _ us hl => match us, hl with | [_, _, _, _, _], _ => rfl
  have F4 := fun_mk (st := s_law_cell_at) l4 c4 k4
  have b4 := F4.binds (ps := ["_law_script", "_law_k"]) fun _ _ _ _ _ _ us hl => match us, hl with | [_, _], _ => rfl
  have F5 := fun_mk (st := s_law_signs) l5 c5 k5
  have b5 := F5.binds (ps := ["_law_cell"]) fun _ _ _ _ _ _ us hl => match us, hl with | [_], _ => rfl
  have F6 := fun_mk (st := s_law_table) l6 c6 k6
  have b6 := F6.binds (ps := ["_law_cell"]) fun _ _ _ _ _ _ us hl => match us, hl with | [_], _ => rfl
  have F7 := fun_mk (st := s_law_paths) l7 c7 k7
  have b7 := F7.binds (ps := ["_law_hands", "_law_size"]) fun _ _ _ _ _ _ us hl => match us, hl with | [_, _], _ => rfl
  have F8 := fun_mk (st := s_law_vote) l8 c8 k8
  have b8 := F8.binds (ps := ["_law_signs_here"]) fun _ _ _ _ _ _ us hl => match us, hl with | [_], _ => rfl
  have F9 := fun_mk (st := s_law_settled) l9 c9 k9
  have b9 := F9.binds (ps := ["_law_hands", "_law_most", "_law_told", "_law_hand", "_law_path"]) fun _ _ _ _ _ _ us hl => match us, hl with | [_, _, _, _, _], _ => rfl
  have F10 := fun_mk (st := s_law_same) l10 c10 k10
  have b10 := F10.binds (ps := ["_law_found", "_law_due"]) fun _ _ _ _ _ _ us hl => match us, hl with | [_, _], _ => rfl
  have F11 := fun_mk (st := s_law_drawn) l11 c11 k11
  have b11 := F11.binds (ps := ["_law_script", "_law_hands", "_law_most", "_law_hand"]) fun _ _ _ _ _ _ us hl => match us, hl with | [_, _, _, _], _ => rfl
  have F12 := fun_mk (st := s_law) l12 c12 k12
  refine ⟨PySem.W.fnOf "law" "law" (defArgs s_law) (defBody s_law) (defScope s_law) .none kV12 dc12 pm12 an12 cd12 ct12, fun s v => .of_eq rfl, fun base _ _ => ?_⟩
  have c_hearers : Cal l.prog w K mg base CX0 1 "hearers" ["hands", "path"] (spHear) f1 _ := ⟨ok_hearers F1 T, PySem.W.mg_of X G a1, k1, b1⟩
  have c_vote : Cal l.prog w K mg base CX0 1 "vote" ["signs"] (spVote K) f2 _ := ⟨ok_vote F2 T, PySem.W.mg_of X G a2, k2, b2⟩
  have c_settled : Cal l.prog w K mg base CX0 5 "settled" ["hands", "most", "told", "hand", "path"] (spSettled l.prog w 3) f3 _ := ⟨ok_settled F3 T c_hearers c_vote (PySem.W.mg_of X G a3) k3 b3 3, PySem.W.mg_of X G a3, k3, b3⟩
  have c_law_cell_at : Cal l.prog w K mg base CX0 1 "_law_cell_at" ["_law_script", "_law_k"] (spCell K) f4 _ := ⟨ok_law_cell_at F4 T, PySem.W.mg_of X G a4, k4, b4⟩
  have c_law_signs : Cal l.prog w K mg base CX0 1 "_law_signs" ["_law_cell"] (spSigns) f5 _ := ⟨ok_law_signs F5 T, PySem.W.mg_of X G a5, k5, b5⟩
  have c_law_table : Cal l.prog w K mg base CX0 1 "_law_table" ["_law_cell"] (spTable) f6 _ := ⟨ok_law_table F6 T, PySem.W.mg_of X G a6, k6, b6⟩
  have c_law_paths : Cal l.prog w K mg base CX0 1 "_law_paths" ["_law_hands", "_law_size"] (spPaths) f7 _ := ⟨ok_law_paths F7 T, PySem.W.mg_of X G a7, k7, b7⟩
  have c_law_vote : Cal l.prog w K mg base CX0 1 "_law_vote" ["_law_signs_here"] (spVote K) f8 _ := ⟨ok_law_vote F8 T, PySem.W.mg_of X G a8, k8, b8⟩
  have c_law_settled : Cal l.prog w K mg base CX0 5 "_law_settled" ["_law_hands", "_law_most", "_law_told", "_law_hand", "_law_path"] (spSettled l.prog w 3) f9 _ := ⟨ok_law_settled F9 T c_law_vote (PySem.W.mg_of X G a9) k9 b9 3, PySem.W.mg_of X G a9, k9, b9⟩
  have c_law_same : Cal l.prog w K mg base CX0 1 "_law_same" ["_law_found", "_law_due"] (spSame) f10 _ := ⟨ok_law_same F10 T, PySem.W.mg_of X G a10, k10, b10⟩
  have c_law_drawn : Cal l.prog w K mg base CX0 2 "_law_drawn" ["_law_script", "_law_hands", "_law_most", "_law_hand"] (spDrawn l.prog w K) f11 _ := ⟨ok_law_drawn F11 T c_law_cell_at c_law_signs c_law_paths, PySem.W.mg_of X G a11, k11, b11⟩
  exact ok_law F12 T c_settled c_law_cell_at c_law_table c_law_settled c_law_same c_law_drawn
theorem walk {l : PySem.W.OpenLaw} {q : Program} {loose : List Str} {XP : (Str → Option Value) → Heap → Prop} {YP : World → Heap → Prop} {d : DefRec} {K : Params → PySem.W.Frag} (hn : l.most = some 63) (hdf : d.params.defaults = [])
    (hY : ∀ (w : World) (h : Heap), YP w h → (K w.params).In h)
    (F : ∀ (w : World) (mg : Str → Option Value) (fa : Addr) (h : Heap), (K w.params).In h → h.Ns mainGlobals mg → mg d.name = some (.ref fa) →
      ∃ fd : FuncData, (∀ (s : Shared) (u : Value), BindsTo s fd ⟨[u], []⟩ [("_law_script", u)]) ∧ ∀ base : Heap, (K w.params).In base → base.Ns mainGlobals mg → FnOk l.prog w (K w.params) mg base CX0 6 fa fd ["_law_script"] (spLaw (K w.params))) :
    PySem.W.WalkO q loose XP YP l.row.toRowW d [] (fun f vs => PySem.call f vs) :=
  L2.walk_of (n := 63) (k := 6) (x := "_law_script") (CX := fun _ => CX0) (sp := fun w => spLaw (K w.params)) hn (by decide) hdf ⟨rfl, by decide, by decide⟩ hY F (fun _ _ a ns hl _ hS => ⟨a, ns, rfl, hS, hl, fun _ => rfl⟩) fun _ _ _ _ _ z => z
end Lt
open PySem PySem.W PyProof.Rows
set_option maxRecDepth 100000 in
set_option maxHeartbeats 0 in
theorem PySem.Challenge.cw_lietable_k03_settled_holds : PySem.Challenge.rw_lietable_k03_settled.Holds := by
  w_on; o_law; k_head; (case hw => w_witness2)
  k_fill
  refine Lt.walk (l := PySem.Challenge.rw_lietable_k03_settled) rfl rfl (fun w h Y => PySem.W.kIn_of Y) ?F
  case F =>
    intro w mg fa h KX G hmg
    refine' Lt.all_mk KX G hmg ?a1 ?l1 ?c1 ?k1 ?a2 ?l2 ?c2 ?k2 ?a3 ?l3 ?c3 ?k3 ?a4 ?l4 ?c4 ?k4 ?a5 ?l5 ?c5 ?k5 ?a6 ?l6 ?c6 ?k6 ?a7 ?l7 ?c7 ?k7 ?a8 ?l8 ?c8 ?k8 ?a9 ?l9 ?c9 ?k9 ?a10 ?l10 ?c10 ?k10 ?a11 ?l11 ?c11 ?k11 ?a12 ?l12 ?c12 ?k12 ?z_range ?z_str ?z_int ?z_bool ?z_list ?z_tuple ?z_dict ?z_set ?z_enumerate ?z_len ?z_isinstance ?z_min ?z_max ?z_sum ?z_all
    (case a1 => k_is)
    (case l1 => k_is)
    (case c1 => k_is)
    (case k1 => k_is)
    (case a2 => k_is)
    (case l2 => k_is)
    (case c2 => k_is)
    (case k2 => k_is)
    (case a3 => k_is)
    (case l3 => k_is)
    (case c3 => k_is)
    (case k3 => k_is)
    (case a4 => k_is)
    (case l4 => k_is)
    (case c4 => k_is)
    (case k4 => k_is)
    (case a5 => k_is)
    (case l5 => k_is)
    (case c5 => k_is)
    (case k5 => k_is)
    (case a6 => k_is)
    (case l6 => k_is)
    (case c6 => k_is)
    (case k6 => k_is)
    (case a7 => k_is)
    (case l7 => k_is)
    (case c7 => k_is)
    (case k7 => k_is)
    (case a8 => k_is)
    (case l8 => k_is)
    (case c8 => k_is)
    (case k8 => k_is)
    (case a9 => k_is)
    (case l9 => k_is)
    (case c9 => k_is)
    (case k9 => k_is)
    (case a10 => k_is)
    (case l10 => k_is)
    (case c10 => k_is)
    (case k10 => k_is)
    (case a11 => k_is)
    (case l11 => k_is)
    (case c11 => k_is)
    (case k11 => k_is)
    (case a12 => k_is)
    (case l12 => k_is)
    (case c12 => k_is)
    (case k12 => k_is)
    (case z_range => k_is)
    (case z_str => k_is)
    (case z_int => k_is)
    (case z_bool => k_is)
    (case z_list => k_is)
    (case z_tuple => k_is)
    (case z_dict => k_is)
    (case z_set => k_is)
    (case z_enumerate => k_is)
    (case z_len => k_is)
    (case z_isinstance => k_is)
    (case z_min => k_is)
    (case z_max => k_is)
    (case z_sum => k_is)
    (case z_all => k_is)
#print axioms PySem.Challenge.cw_lietable_k03_settled_holds
