import PyProof.Rows.All
import Wide.All
import OpenK.AllK
import Wide.FinOn
import HandS.ForMost
import HandS.SetFor
import HandS.IsInst
import HandS.Flow
import HandS.Style
import HandS.Conv
import HandS.AnyAll
import HandS.Walk
import HandS.More
import HandS.Star
import HandS.DictComp
import HandS.Deep
import HandS.Finally
import HandS.ExcIs
import HandS.ExcOwn
import HandS.WordsExc
import KE.KDictKeyed
import KE.KDictCopyH
import KE.KTupTabMore
import PySem.Challenge.RW_lietable_k01_paths
set_option Elab.async false
set_option linter.all false
set_option maxRecDepth 100000
set_option maxHeartbeats 4000000
/-! Lt, part A: what grows, what stands; dicts by their own object. -/
namespace Lt
open PySem PySem.Spec PyProof.Rows L2

/-! ### heaps that grow -/
def isTbl : HO → Bool
  | .tbl _ => true
  | _ => false
/-- all that is tracked stands as it stood; a code table may have grown -/
structure Le (H H' : Hp) : Prop where
  ob : ∀ a o, H a = some o → isTbl o = false → H' a = some o
  tb : ∀ a ps, H a = some (.tbl ps) → ∃ qs, H' a = some (.tbl qs) ∧ (TriplesOk ps.toList → TriplesOk qs.toList)
theorem Le.refl (H : Hp) : Le H H := ⟨fun _ _ h _ => h, fun _ ps h => ⟨ps, h, id⟩⟩
theorem Le.trans {H H1 H2 : Hp} (p : Le H H1) (q : Le H1 H2) : Le H H2 :=
  ⟨fun a o h n => q.ob a o (p.ob a o h n) n, fun a ps h => by
    obtain ⟨qs, h1, t1⟩ := p.tb a ps h
    obtain ⟨rs, h2, t2⟩ := q.tb a qs h1
    exact ⟨rs, h2, fun t => t2 (t1 t)⟩⟩
theorem Le.back {H H' : Hp} (p : Le H H') {a : Addr} (h : H' a = none) : H a = none := by
  cases q : H a with
  | none => rfl
  | some o =>
    cases ht : isTbl o with
    | false =>
      rw [p.ob a o q ht] at h
      cases h
    | true =>
      cases o with
      | tbl ps =>
        obtain ⟨qs, h1, _⟩ := p.tb a ps q
        rw [h1] at h
        cases h
      | _ => cases ht
theorem Le.new {H : Hp} {p : Addr} {o : HO} (h : H p = none) : Le H (upd H p o) :=
  ⟨fun a u e _ => by rw [upd_ne (ne_of_none e h)]; exact e, fun a ps e => ⟨ps, by rw [upd_ne (ne_of_none e h)]; exact e, id⟩⟩
/-- what was not there ahead may be written -/
theorem Le.mut {H H' : Hp} {p : Addr} {o : HO} (e : Le H H') (h : H p = none) : Le H (upd H' p o) :=
  ⟨fun a u ha n => by rw [upd_ne (ne_of_none ha h)]; exact e.ob a u ha n, fun a ps ha => by rw [upd_ne (ne_of_none ha h)]; exact e.tb a ps ha⟩
theorem Le.lst {H H' : Hp} (p : Le H H') {a : Addr} {xs : List V} (h : H a = some (.lst xs)) : H' a = some (.lst xs) := p.ob a _ h rfl
theorem Le.tup {H H' : Hp} (p : Le H H') {a : Addr} {xs : List V} (h : H a = some (.tup xs)) : H' a = some (.tup xs) := p.ob a _ h rfl
theorem Le.ext {H H' : Hp} (p : Le H H') {a : Addr} {f : Heap → Prop} (h : H a = some (.ext f)) : H' a = some (.ext f) := p.ob a _ h rfl
theorem Le.ins {H H' : Hp} (p : Le H H') {a C d : Addr} {fs : List (Str × V)} (h : H a = some (.ins C d fs)) : H' a = some (.ins C d fs) := p.ob a _ h rfl
theorem Le.frz {H H' : Hp} (p : Le H H') {a : Addr} {o : Obj} {u : HO} (h : H a = some (.frz o u)) : H' a = some (.frz o u) := p.ob a _ h rfl
theorem Le.rd {H H' : Hp} (p : Le H H') {a : Addr} {u : HO} (n : isTbl u = false) (h : Rd H a u) : Rd H' a u := by
  rcases h with h | ⟨o, h⟩
  · exact .inl (p.ob a _ h n)
  · exact .inr ⟨o, p.frz h⟩
theorem Le.sql {K : PySem.W.Frag} {H H' : Hp} (p : Le H H') {a : Addr} {xs : List V} (h : SqL K H a xs) : SqL K H' a xs := by
  rcases h with h | h
  · exact .inl (p.rd rfl h)
  · exact .inr h
theorem Le.sqt {K : PySem.W.Frag} {H H' : Hp} (p : Le H H') {a : Addr} {xs : List V} (h : SqT K H a xs) : SqT K H' a xs := by
  rcases h with h | h
  · exact .inl (p.rd rfl h)
  · exact .inr h
theorem Le.same {H H' : Hp} (s : Same H H') : Le H H' := ⟨fun a o h _ => s a o h, fun a ps h => ⟨ps, s a _ h, id⟩⟩

/-! ### a thing by its very object -/
def raw (a : Addr) (o : Obj) : HO := .ext fun h => h.get? a = some o
theorem raw_ok {P : Program} {w : World} {H : Hp} {h : Heap} {a : Addr} {o : Obj} (e : h.get? a = some o) : ObjOk P w H h a (raw a o) :=
  ⟨e, ⟨o, e⟩, fun _ _ p k => k o p⟩
theorem raw_get {P : Program} {w : World} {H : Hp} {h : Heap} {a : Addr} {o : Obj} (ok : HOk P w H h) (e : H a = some (raw a o)) : h.get? a = some o := (ok a _ e).1

section
variable {X : Cx} {pins : List (Addr × Obj)} {σ : L2.St} {H : Hp} {s : Shared} {a : Addr}
/-- a tracked dict's object is replaced -/
theorem Inv.rawset {o o' : Obj} {h' : Heap} {t' : Nat} (I : Inv X pins σ H s) (e : H a = some (raw a o)) (hs : Heap.SameBut a s.heap h') (he : h'.get? a = some o') :
    Inv X pins σ (upd H a (raw a o')) { s with heap := h', toks := t' } :=
  I.write (x := a) (e := a) (by rw [e]; exact True.intro) (.inl rfl) (fun b q hb z => (hs.2 b hb).trans z) ⟨o', he⟩ (raw_ok he)
theorem Inv.rawnew {o : Obj} {h' : Heap} {t' : Nat} (I : Inv X pins σ H s) (k : ∀ b u, s.heap.get? b = some u → h'.get? b = some u) (hp : s.heap.objs.size ≤ a) (he : h'.get? a = some o) :
    Inv X pins σ (upd H a (raw a o)) { s with heap := h', toks := t' } := I.laid k hp (raw_ok he)
end
theorem nosys {X : Cx} {pins : List (Addr × Obj)} {σ : L2.St} {H : Hp} {s : Shared} (I : Inv X pins σ H s) {a : Addr} (h : s.heap.objs.size ≤ a) : (a == sysModules) = false :=
  beq_eq_false_iff_ne.mpr (Ne.symm (Nat.ne_of_lt (Nat.lt_of_lt_of_le I.big h)))

/-! ### data that never changes: a whole number, a text, nothing, a tuple of such -/
abbrev D := NestedKey
mutual
/-- the value v is the datum d -/
def At (H : Hp) : D → V → Prop
  | .none, v => v = .non
  | .num i, v => v = .int i
  | .text x, v => v = .str x
  | .tup ks, v => ∃ b xs, v = .ref b ∧ H b = some (.tup xs) ∧ Ats H ks xs
def Ats (H : Hp) : List D → List V → Prop
  | [], xs => xs = []
  | k :: ks, xs => ∃ v r, xs = v :: r ∧ At H k v ∧ Ats H ks r
end
mutual
theorem At.keep {H H' : Hp} (k : ∀ a xs, H a = some (.tup xs) → H' a = some (.tup xs)) : ∀ (d : D) (v : V), At H d v → At H' d v
  | .none, _, h => h
  | .num _, _, h => h
  | .text _, _, h => h
  | .tup ks, v, h => by
    rw [At] at h
    obtain ⟨b, xs, e, hb, hs⟩ := h
    rw [At]
    exact ⟨b, xs, e, k b xs hb, Ats.keep k ks xs hs⟩
theorem Ats.keep {H H' : Hp} (k : ∀ a xs, H a = some (.tup xs) → H' a = some (.tup xs)) : ∀ (ds : List D) (vs : List V), Ats H ds vs → Ats H' ds vs
  | [], _, h => h
  | d :: ds, vs, h => by
    rw [Ats] at h
    obtain ⟨v, r, e, h1, h2⟩ := h
    rw [Ats]
    exact ⟨v, r, e, At.keep k d v h1, Ats.keep k ds r h2⟩
end
mutual
theorem At.inj {H : Hp} : ∀ (d e : D) (v : V), At H d v → At H e v → d = e
  | .none, e, v, h1, h2 => by
    rw [At] at h1
    subst h1
    cases e with
    | none => rfl
    | num i => rw [At] at h2; cases h2
    | text x => rw [At] at h2; cases h2
    | tup ks => rw [At] at h2; obtain ⟨_, _, q, _⟩ := h2; cases q
  | .num i, e, v, h1, h2 => by
    rw [At] at h1
    subst h1
    cases e with
    | none => rw [At] at h2; cases h2
    | num j => rw [At] at h2; cases h2; rfl
    | text x => rw [At] at h2; cases h2
    | tup ks => rw [At] at h2; obtain ⟨_, _, q, _⟩ := h2; cases q
  | .text x, e, v, h1, h2 => by
    rw [At] at h1
    subst h1
    cases e with
    | none => rw [At] at h2; cases h2
    | num j => rw [At] at h2; cases h2
    | text y => rw [At] at h2; cases h2; rfl
    | tup ks => rw [At] at h2; obtain ⟨_, _, q, _⟩ := h2; cases q
  | .tup ks, e, v, h1, h2 => by
    rw [At] at h1
    obtain ⟨b, xs, q, hb, hs⟩ := h1
    subst q
    cases e with
    | none => rw [At] at h2; cases h2
    | num j => rw [At] at h2; cases h2
    | text y => rw [At] at h2; cases h2
    | tup ls =>
      rw [At] at h2
      obtain ⟨b', xs', q', hb', hs'⟩ := h2
      cases q'
      rw [hb] at hb'
      cases hb'
      rw [Ats.inj ks ls xs hs hs']
theorem Ats.inj {H : Hp} : ∀ (d e : List D) (v : List V), Ats H d v → Ats H e v → d = e
  | [], e, v, h1, h2 => by
    rw [Ats] at h1
    subst h1
    cases e with
    | nil => rfl
    | cons a as => rw [Ats] at h2; obtain ⟨_, _, q, _⟩ := h2; cases q
  | d :: ds, e, v, h1, h2 => by
    rw [Ats] at h1
    obtain ⟨x, r, q, ha, hs⟩ := h1
    subst q
    cases e with
    | nil => rw [Ats] at h2; cases h2
    | cons a as =>
      rw [Ats] at h2
      obtain ⟨x', r', q', ha', hs'⟩ := h2
      cases q'
      rw [At.inj d a x ha ha', Ats.inj ds as r hs hs']
end
theorem At.le {H H' : Hp} (l : Le H H') {d : D} {v : V} (h : At H d v) : At H' d v := At.keep (fun _ _ e => l.tup e) d v h
theorem Ats.le {H H' : Hp} (l : Le H H') {d : List D} {v : List V} (h : Ats H d v) : Ats H' d v := Ats.keep (fun _ _ e => l.tup e) d v h
theorem At.int {H : Hp} {i : Int} : At H (.num i) (.int i) := by rw [At]
theorem At.str {H : Hp} {x : Str} : At H (.text x) (.str x) := by rw [At]
theorem At.non {H : Hp} : At H .none .non := by rw [At]
theorem At.tup {H : Hp} {ks : List D} {b : Addr} {xs : List V} (hb : H b = some (.tup xs)) (h : Ats H ks xs) : At H (.tup ks) (.ref b) := by rw [At]; exact ⟨b, xs, rfl, hb, h⟩
theorem Ats.nil {H : Hp} : Ats H [] [] := by rw [Ats]
theorem Ats.cons {H : Hp} {d : D} {ds : List D} {v : V} {vs : List V} (h : At H d v) (t : Ats H ds vs) : Ats H (d :: ds) (v :: vs) := by rw [Ats]; exact ⟨v, vs, rfl, h, t⟩
theorem At.of_int {H : Hp} {i : Int} {v : V} (h : At H (.num i) v) : v = .int i := by rw [At] at h; exact h
theorem At.of_str {H : Hp} {i : Str} {v : V} (h : At H (.text i) v) : v = .str i := by rw [At] at h; exact h
theorem At.of_non {H : Hp} {v : V} (h : At H .none v) : v = .non := by rw [At] at h; exact h
theorem At.of_tup {H : Hp} {ks : List D} {v : V} (h : At H (.tup ks) v) : ∃ b xs, v = .ref b ∧ H b = some (.tup xs) ∧ Ats H ks xs := by rw [At] at h; exact h
theorem Ats.of_nil {H : Hp} {vs : List V} (h : Ats H [] vs) : vs = [] := by rw [Ats] at h; exact h
theorem Ats.of_cons {H : Hp} {d : D} {ds : List D} {vs : List V} (h : Ats H (d :: ds) vs) : ∃ v r, vs = v :: r ∧ At H d v ∧ Ats H ds r := by rw [Ats] at h; exact h
theorem Ats.length {H : Hp} : ∀ {ds : List D} {vs : List V}, Ats H ds vs → vs.length = ds.length
  | [], _, h => by rw [h.of_nil]; rfl
  | d :: ds, _, h => by
    obtain ⟨v, r, e, _, t⟩ := h.of_cons
    rw [e, List.length_cons, List.length_cons, Ats.length t]
theorem Ats.get {H : Hp} : ∀ {ds : List D} {vs : List V} {i : Nat} {d : D}, Ats H ds vs → ds[i]? = some d → ∃ v, vs[i]? = some v ∧ At H d v
  | [], _, _, _, _, e => by simp at e
  | d :: ds, _, i, k, h, e => by
    obtain ⟨v, r, q, h1, t⟩ := h.of_cons
    subst q
    cases i with
    | zero =>
      simp at e
      subst e
      exact ⟨v, rfl, h1⟩
    | succ i =>
      obtain ⟨u, hu, a⟩ := Ats.get (i := i) t (by simpa using e)
      exact ⟨u, by simpa using hu, a⟩
theorem Ats.get' {H : Hp} : ∀ {ds : List D} {vs : List V} {i : Nat} {v : V}, Ats H ds vs → vs[i]? = some v → ∃ d, ds[i]? = some d ∧ At H d v
  | [], _, _, _, h, e => by rw [h.of_nil] at e; simp at e
  | d :: ds, _, i, k, h, e => by
    obtain ⟨v, r, q, h1, t⟩ := h.of_cons
    subst q
    cases i with
    | zero =>
      simp at e
      subst e
      exact ⟨d, rfl, h1⟩
    | succ i =>
      obtain ⟨u, hu, a⟩ := Ats.get' (i := i) t (by simpa using e)
      exact ⟨u, by simpa using hu, a⟩
theorem Ats.app {H : Hp} : ∀ {ds es : List D} {vs us : List V}, Ats H ds vs → Ats H es us → Ats H (ds ++ es) (vs ++ us)
  | [], _, _, _, h, t => by rw [h.of_nil]; exact t
  | d :: ds, es, _, us, h, t => by
    obtain ⟨v, r, q, h1, h2⟩ := h.of_cons
    subst q
    exact Ats.cons h1 (Ats.app h2 t)
theorem Ats.take {H : Hp} : ∀ (n : Nat) {ds : List D} {vs : List V}, Ats H ds vs → Ats H (ds.take n) (vs.take n)
  | 0, _, _, _ => Ats.nil
  | n + 1, [], _, h => by rw [h.of_nil]; exact Ats.nil
  | n + 1, d :: ds, _, h => by
    obtain ⟨v, r, q, h1, h2⟩ := h.of_cons
    subst q
    exact Ats.cons h1 (Ats.take n h2)
theorem Ats.drop {H : Hp} : ∀ (n : Nat) {ds : List D} {vs : List V}, Ats H ds vs → Ats H (ds.drop n) (vs.drop n)
  | 0, _, _, h => h
  | n + 1, [], _, h => by rw [h.of_nil]; exact Ats.nil
  | n + 1, d :: ds, _, h => by
    obtain ⟨v, r, q, h1, h2⟩ := h.of_cons
    subst q
    exact Ats.drop n h2
/-- the leaves are their own values -/
theorem Ats.ints {H : Hp} : ∀ {ns : List Int} {vs : List V}, Ats H (ns.map .num) vs → vs = ns.map .int
  | [], _, h => h.of_nil
  | n :: ns, _, h => by
    obtain ⟨v, r, q, h1, h2⟩ := Ats.of_cons h
    rw [q, h1.of_int, Ats.ints h2]
    rfl
theorem ats_ints {H : Hp} : ∀ (ns : List Int), Ats H (ns.map .num) (ns.map .int)
  | [] => Ats.nil
  | n :: ns => Ats.cons At.int (ats_ints ns)

/-! ### the data in the heap itself -/
mutual
theorem At.isk {P : Program} {w : World} {H : Hp} {h : Heap} (ok : HOk P w H h) : ∀ (d : D) (v : V) (u : Value), At H d v → RelV v u → NestedIs h d u
  | .none, _, _, a, r => by
    rw [a.of_non] at r
    cases r
    exact .none
  | .num i, _, _, a, r => by
    rw [a.of_int] at r
    obtain ⟨t, e⟩ := (show ∃ t, _ = Value.int i t from r)
    rw [e]
    exact .int i t
  | .text x, _, _, a, r => by
    rw [a.of_str] at r
    obtain ⟨t, e⟩ := (show ∃ t, _ = Value.str x t from r)
    rw [e]
    exact .text x t
  | .tup ks, _, _, a, r => by
    obtain ⟨b, xs, e, hb, hs⟩ := a.of_tup
    rw [e] at r
    cases r
    obtain ⟨_, its, rv, o, h1, h2, n, h3⟩ := (show ObjOk P w H h b (.tup xs) from ok b _ hb)
    exact .tup h1 h2 h3 (by simpa using Ats.isk ok ks xs its hs rv)
theorem Ats.isk {P : Program} {w : World} {H : Hp} {h : Heap} (ok : HOk P w H h) : ∀ (ds : List D) (vs : List V) (us : List Value), Ats H ds vs → Vals vs us → NestedAll h ds us
  | [], _, _, a, r => by
    rw [a.of_nil] at r
    cases r
    exact .nil
  | d :: ds, _, _, a, r => by
    obtain ⟨v, rs, e, h1, h2⟩ := a.of_cons
    rw [e] at r
    cases r with
    | cons r1 r2 => exact .cons (At.isk ok d v _ h1 r1) (Ats.isk ok ds rs _ h2 r2)
end
end Lt

/-! Lt, part B: dicts by their own object: keys that are leaves, keys that are tuples. -/
namespace Lt
open PySem PySem.Spec PyProof.Rows L2

/-! ### keys: nothing and texts -/
def lf : Option Str → Leaf
  | none => .none
  | some x => .text x
def sg : Option Str → V
  | none => .non
  | some x => .str x
theorem lf_inj {a b : Option Str} (h : lf a = lf b) : a = b := by
  cases a <;> cases b <;> first | rfl | (injection h with h; rw [h]) | cases h
theorem sg_inj {a b : Option Str} (h : sg a = sg b) : a = b := by
  cases a <;> cases b <;> first | rfl | (injection h with h; rw [h]) | cases h
theorem sg_is {P : Program} {w : World} {k : Option Str} {u : Value} (r : RelV (sg k) u) : (leafKind P w).is (lf k) u = true := by
  cases k with
  | none =>
    cases r
    exact leaf_none
  | some x =>
    obtain ⟨t, e⟩ := (show ∃ t, u = Value.str x t from r)
    rw [e]
    exact leaf_str x t
theorem is_sg {P : Program} {w : World} {k : Option Str} {u : Value} (r : (leafKind P w).is (lf k) u = true) : RelV (sg k) u := by
  cases k with
  | none =>
    have q := Leaf.nested (h := default) (show Leaf.isOf (lf none) u = true from r)
    cases q
    exact rfl
  | some x =>
    have q := Leaf.nested (h := default) (show Leaf.isOf (lf (some x)) u = true from r)
    cases q with
    | text _ t => exact ⟨t, rfl⟩

def lfs (kvs : List (Option Str × V)) : List (Leaf × V) := kvs.map fun p => (lf p.1, p.2)
theorem valV_lfs (k : Option Str) : ∀ kvs : List (Option Str × V), valV (lfs kvs) (lf k) = valV kvs k
  | [] => rfl
  | p :: r => by
    have ih := valV_lfs k r
    show valV ((lf p.1, p.2) :: lfs r) (lf k) = valV (p :: r) k
    by_cases e : p.1 = k
    · rw [valV_pos e, valV_pos (p := (lf p.1, p.2)) (by rw [e])]
    · rw [valV_neg e, valV_neg (p := (lf p.1, p.2)) (fun z => e (lf_inj z)), ih]
theorem putK_lfs (k : Option Str) (v : V) (kvs : List (Option Str × V)) : putK (lfs kvs) (lf k) v = lfs (putK kvs k v) := by
  have e : ((lfs kvs).any fun kv => decide (kv.1 = lf k)) = kvs.any fun kv => decide (kv.1 = k) := by
    rw [valV_any, valV_any, valV_lfs]
  unfold putK
  rw [e]
  by_cases q : (kvs.any fun kv => decide (kv.1 = k)) = true
  · rw [if_pos q, if_pos q]
    unfold lfs
    rw [List.map_map, List.map_map]
    refine List.map_congr_left fun p _ => ?_
    show (if lf p.1 = lf k then (lf p.1, v) else (lf p.1, p.2)) = (lf (if p.1 = k then (p.1, v) else p).1, (if p.1 = k then (p.1, v) else p).2)
    by_cases z : p.1 = k
    · rw [if_pos z, if_pos (by rw [z])]
    · rw [if_neg z, if_neg (fun y => z (lf_inj y))]
  · rw [if_neg q, if_neg q]
    unfold lfs
    rw [List.map_append]
    rfl

/-- the object is a dict with these keys and values -/
def IsLD (P : Program) (w : World) (o : Obj) (kvs : List (Option Str × V)) : Prop :=
  kvs.length ≤ sizeLine ∧ ∃ es ep vs, o.ExactDict ∧ o.data = .dict es ep ∧ KeysOf (leafKind P w) es ∧ Pairs (leafKind P w) es.toList vs ∧ (vs.map (·.1)).Nodup ∧ KV (lfs kvs) vs
def LD (P : Program) (w : World) (H : Hp) (a : Addr) (kvs : List (Option Str × V)) : Prop := (a == sysModules) = false ∧ ∃ o, H a = some (raw a o) ∧ IsLD P w o kvs
theorem LD.le {P : Program} {w : World} {H H' : Hp} {a : Addr} {kvs : List (Option Str × V)} (h : LD P w H a kvs) (l : Le H H') : LD P w H' a kvs :=
  let ⟨y, o, e, i⟩ := h; ⟨y, o, l.ext e, i⟩

/-! ### keys: tuples of data -/
/-- entries: the keys' own tuples at the addresses -/
def Ent (H : Hp) : List (D × V) → List (D × Addr × Value) → Prop := Paired fun p q => p.1 = q.1 ∧ (At H p.1 (.ref q.2.1) ∧ p.1.depth ≤ 8) ∧ RelV p.2 q.2.2
def IsND (P : Program) (w : World) (H : Hp) (o : Obj) (kvs : List (D × V)) : Prop :=
  kvs.length ≤ sizeLine ∧ ∃ es ep xs, o.ExactDict ∧ o.data = .dict es ep ∧ es.toList = xs.map (entryOfKey (nestedKind P w)) ∧ (xs.map (·.1)).Nodup ∧ Ent H kvs xs
def ND (P : Program) (w : World) (H : Hp) (a : Addr) (kvs : List (D × V)) : Prop := (a == sysModules) = false ∧ ∃ o, H a = some (raw a o) ∧ IsND P w H o kvs
/-- the tuples stand -/
def Tups (H H' : Hp) : Prop := ∀ a xs, H a = some (.tup xs) → H' a = some (.tup xs)
theorem Le.tups {H H' : Hp} (l : Le H H') : Tups H H' := fun _ _ e => l.tup e
theorem Tups.trans {H H1 H2 : Hp} (a : Tups H H1) (b : Tups H1 H2) : Tups H H2 := fun p xs e => b p xs (a p xs e)
theorem Tups.refl (H : Hp) : Tups H H := fun _ _ e => e
/-- what is no tuple may be written -/
theorem tups_upd {H : Hp} {a : Addr} {o u : HO} (h : H a = some o) (n : ∀ xs, o ≠ .tup xs) : Tups H (upd H a u) := fun b xs e => by
  rw [upd_ne (ne_of e h (fun z => n xs z.symm))]
  exact e
theorem tups_new {H : Hp} {a : Addr} {u : HO} (h : H a = none) : Tups H (upd H a u) := fun b xs e => by
  rw [upd_ne (ne_of_none e h)]
  exact e
theorem At.tp {H H' : Hp} (l : Tups H H') {d : D} {v : V} (h : At H d v) : At H' d v := At.keep l d v h
theorem Ats.tp {H H' : Hp} (l : Tups H H') {d : List D} {v : List V} (h : Ats H d v) : Ats H' d v := Ats.keep l d v h
theorem Ent.tp {H H' : Hp} (l : Tups H H') {kvs : List (D × V)} {xs : List (D × Addr × Value)} (r : Ent H kvs xs) : Ent H' kvs xs :=
  Paired.mapP r fun _ _ z => ⟨z.1, ⟨z.2.1.1.tp l, z.2.1.2⟩, z.2.2⟩
theorem IsND.tp {P : Program} {w : World} {H H' : Hp} (l : Tups H H') {o : Obj} {kvs : List (D × V)} (h : IsND P w H o kvs) : IsND P w H' o kvs :=
  let ⟨z, es, ep, xs, h1, h2, h3, h4, r⟩ := h; ⟨z, es, ep, xs, h1, h2, h3, h4, r.tp l⟩
theorem ND.at {P : Program} {w : World} {H H' : Hp} {a : Addr} {kvs : List (D × V)} (h : ND P w H a kvs) (l : Tups H H') (e : ∀ o, H a = some (raw a o) → H' a = some (raw a o)) : ND P w H' a kvs :=
  let ⟨y, o, q, i⟩ := h; ⟨y, o, e o q, i.tp l⟩
theorem ND.le {P : Program} {w : World} {H H' : Hp} {a : Addr} {kvs : List (D × V)} (h : ND P w H a kvs) (l : Le H H') : ND P w H' a kvs := h.at l.tups fun _ e => l.ext e

theorem Ent.val {H : Hp} {kvs : List (D × V)} {xs : List (D × Addr × Value)} (r : Ent H kvs xs) (k : D) : RelO (valV kvs k) ((atKey xs k).map (·.2)) := by
  unfold Ent at r
  induction r with
  | nil => exact True.intro
  | @cons p q ps qs h t ih =>
    obtain ⟨h1, _, h2⟩ := h
    by_cases e : p.1 = k
    · have e' : q.1 = k := h1.symm.trans e
      have b : atKey (q :: qs) k = some q.2 := by simp [atKey, List.find?_cons, e']
      rw [valV_pos e, b]
      exact h2
    · have e' : ¬ q.1 = k := fun z => e (h1.trans z)
      have b : atKey (q :: qs) k = atKey qs k := by simp [atKey, List.find?_cons, e']
      rw [valV_neg e, b]
      exact ih
theorem Ent.repl {H : Hp} {kvs : List (D × V)} {xs : List (D × Addr × Value)} (r : Ent H kvs xs) (k : D) {y : V} {u : Value} (ry : RelV y u) :
    Ent H (kvs.map fun kv => if kv.1 = k then (kv.1, y) else kv) (xs.map (putAt k u)) := by
  unfold Ent at r ⊢
  induction r with
  | nil => exact .nil
  | @cons p q ps qs h t ih =>
    rw [List.map_cons, List.map_cons]
    refine .cons ?_ ih
    obtain ⟨h1, h2, h3⟩ := h
    unfold putAt
    by_cases e : p.1 = k
    · rw [if_pos e, if_pos (h1.symm.trans e)]
      exact ⟨h1, h2, ry⟩
    · rw [if_neg e, if_neg (fun z => e (h1.trans z))]
      exact ⟨h1, h2, h3⟩
theorem Ent.put {H : Hp} {kvs : List (D × V)} {xs : List (D × Addr × Value)} (r : Ent H kvs xs) {k : D} {b : Addr} {y : V} {u : Value} (hb : At H k (.ref b)) (hd : k.depth ≤ 8) (ry : RelV y u) :
    Ent H (putK kvs k y) (storedH xs k b u) := by
  have e : (kvs.any fun kv => decide (kv.1 = k)) = (atKey xs k).isSome := by
    rw [valV_any, (r.val k).isSome_eq, Option.isSome_map]
  unfold putK storedH
  rw [e]
  by_cases q : (atKey xs k).isSome = true
  · rw [if_pos q, if_pos q]
    exact r.repl k ry
  · rw [if_neg q, if_neg q]
    exact Paired.snoc r ⟨rfl, ⟨hb, hd⟩, ry⟩
theorem Ent.length {H : Hp} {kvs : List (D × V)} {xs : List (D × Addr × Value)} (r : Ent H kvs xs) : kvs.length = xs.length := Paired.length r
theorem Ent.get {H : Hp} {kvs : List (D × V)} {xs : List (D × Addr × Value)} (r : Ent H kvs xs) : ∀ {i : Nat} {p : D × V}, kvs[i]? = some p → ∃ q, xs[i]? = some q ∧ p.1 = q.1 ∧ (At H p.1 (.ref q.2.1) ∧ p.1.depth ≤ 8) ∧ RelV p.2 q.2.2 := by
  unfold Ent at r
  induction r with
  | nil =>
    intro i p e
    simp at e
  | @cons p q ps qs h t ih =>
    intro i p' e
    cases i with
    | zero =>
      simp at e
      subst e
      exact ⟨q, rfl, h⟩
    | succ i =>
      obtain ⟨q', h1, h2⟩ := ih (by simpa using e)
      exact ⟨q', by simpa using h1, h2⟩
theorem Ent.keys {H : Hp} {kvs : List (D × V)} {xs : List (D × Addr × Value)} (r : Ent H kvs xs) : kvs.map (·.1) = xs.map (·.1) := by
  unfold Ent at r
  induction r with
  | nil => rfl
  | cons h t ih => rw [List.map_cons, List.map_cons, ih, h.1]

section
variable {P : Program} {w : World} {H : Hp} {h : Heap} {a : Addr}
theorem LD.dict {kvs : List (Option Str × V)} (ok : HOk P w H h) (e : LD P w H a kvs) : kvs.length ≤ sizeLine ∧ (a == sysModules) = false ∧ ∃ vs, KV (lfs kvs) vs ∧ h.DictOf (leafKind P w) a vs := by
  obtain ⟨y, o, ho, z, es, ep, vs, h1, h2, h3, h4, h5, r⟩ := e
  exact ⟨z, y, vs, r, o, es, ep, raw_get ok ho, h1, h2, h3, h4, h5⟩
theorem ent_is {kvs : List (D × V)} {xs : List (D × Addr × Value)} (ok : HOk P w H h) (r : Ent H kvs xs) : ∀ x ∈ xs, (nestedKind P w).is h x.1 x.2.1 := by
  intro x hx
  obtain ⟨i, hi⟩ := List.mem_iff_getElem?.mp hx
  have hl : i < kvs.length := by
    rw [r.length]
    exact (List.getElem?_eq_some_iff.mp hi).1
  obtain ⟨q, hq, e, ⟨h1, h2⟩, _⟩ := r.get (List.getElem?_eq_getElem hl)
  rw [hi] at hq
  cases hq
  rw [← e]
  exact ⟨At.isk ok _ _ _ h1 rfl, h2⟩
theorem key_is {k : D} {b : Addr} (ok : HOk P w H h) (a : At H k (.ref b)) (hd : k.depth ≤ 8) : (nestedKind P w).is h k b := ⟨At.isk ok _ _ _ a rfl, hd⟩
theorem ND.dict {kvs : List (D × V)} (ok : HOk P w H h) (e : ND P w H a kvs) : kvs.length ≤ sizeLine ∧ (a == sysModules) = false ∧ ∃ xs, Ent H kvs xs ∧ h.DictOfH (nestedKind P w) a xs := by
  obtain ⟨y, o, ho, z, es, ep, xs, h1, h2, h3, h4, r⟩ := e
  exact ⟨z, y, xs, r, o, es, ep, raw_get ok ho, h1, h2, h3, ent_is ok r, h4⟩
theorem ND.nodup {kvs : List (D × V)} (e : ND P w H a kvs) : (kvs.map (·.1)).Nodup := by
  obtain ⟨y, o, ho, z, es, ep, xs, h1, h2, h3, h4, r⟩ := e
  rw [r.keys]
  exact h4
end

/-! ### what is found at a key, what stands behind a store -/
def DG (P : Program) (w : World) (H : Hp) (a : Addr) (y : V) (r : Option V) : Prop :=
  (∃ kvs k, LD P w H a kvs ∧ y = sg k ∧ r = valV kvs k) ∨ ∃ kvs k b, ND P w H a kvs ∧ y = .ref b ∧ At H k y ∧ k.depth ≤ 8 ∧ r = valV kvs k
/-- the dict at a holds y: v, all else stands -/
def DP (P : Program) (w : World) (H : Hp) (a : Addr) (y v : V) (R : Hp → Prop) : Prop :=
  (∃ kvs k, LD P w H a kvs ∧ y = sg k ∧ kvs.length < sizeLine ∧ ∀ o, IsLD P w o (putK kvs k v) → R (upd H a (raw a o))) ∨
  ∃ kvs k b, ND P w H a kvs ∧ y = .ref b ∧ At H k y ∧ k.depth ≤ 8 ∧ kvs.length < sizeLine ∧ ∀ o, IsND P w H o (putK kvs k v) → R (upd H a (raw a o))

section
variable {X : Cx} {pins : List (Addr × Obj)} {σ : L2.St} {H : Hp} {s : Shared} {a : Addr} {y v d : V} {u r : Value} {o : Option V} {A : Around} {E : Value → Shared → Prop}
theorem room8 {A : Around} (hu : A.units + 64 < cLine) : (nestedKind X.prog X.w).room A.in1 := by
  show A.units + 1 + 8 < cLine
  omega
theorem dg_getItem {Q : Value → Shared → Prop} (hu : A.units + 64 < cLine) (I : Inv X pins σ H s) (g : DG X.prog X.w H a y (some v)) (ry : RelV y u) (h : ∀ w' s', Inv X pins σ H s' → RelV v w' → Q w' s') :
    wpAny (model X.prog X.w) A (getItem (.ref a) u) Q E s := by
  rcases g with ⟨kvs, k, e, ey, l⟩ | ⟨kvs, k, b, e, ey, ak, hd, l⟩
  · subst ey
    obtain ⟨z, hs, vs, rel, dd⟩ := e.dict I.hok
    obtain ⟨w', hw, rw'⟩ := RelO.some_of (v := v) (o := valueAt vs (lf k)) (by rw [l, ← valV_lfs]; exact rel.val (lf k))
    exact wpAny_getItem_of (sg_is ry) dd.mapOf hw (h w' _ (I.tok _) rw')
  · subst ey
    cases (show u = Value.ref b from ry)
    obtain ⟨z, hs, xs, rel, dd⟩ := e.dict I.hok
    obtain ⟨w', hw, rw'⟩ := RelO.some_of (v := v) (o := (atKey xs k).map (·.2)) (by rw [l]; exact rel.val k)
    obtain ⟨p, hp, hp2⟩ := Option.map_eq_some_iff.mp hw
    refine wpAny_getItem_heap (room8 hu) (key_is I.hok ak hd) dd hp ?_
    rw [hp2]
    exact h w' _ (I.tok _) rw'
theorem dg_get2 {Q : Value → Shared → Prop} (hu : A.units + 64 < cLine) (I : Inv X pins σ H s) (g : DG X.prog X.w H a y o) (ry : RelV y u) (rd : RelV d r) (h : ∀ w' s', Inv X pins σ H s' → RelV (o.getD d) w' → Q w' s') :
    wpAny (model X.prog X.w) A (call (.builtin "dict.get") [.ref a, u, r]) Q E s := by
  rcases g with ⟨kvs, k, e, ey, l⟩ | ⟨kvs, k, b, e, ey, ak, hd, l⟩
  · subst ey
    obtain ⟨z, hs, vs, rel, dd⟩ := e.dict I.hok
    refine call_meetsIn PySem.F.slot_dict_get dd.typeIs PySem.F.entry_dict_get (PySem.F.args_dict_get_3 _ _ _) (meets_dict_get_default (leafKind X.prog X.w) a (sg_is ry) hs r) ⟨_, dd.mapOf, h _ _ (I.tok _) ?_⟩
    rw [l, ← valV_lfs]
    exact (rel.val (lf k)).getD rd
  · subst ey
    cases (show u = Value.ref b from ry)
    obtain ⟨z, hs, xs, rel, dd⟩ := e.dict I.hok
    refine call_meetsIn PySem.F.slot_dict_get dd.typeIs PySem.F.entry_dict_get (PySem.F.args_dict_get_3 _ _ _) (meetsH_dict_get_default (nestedKind X.prog X.w) a b hs r) ⟨room8 hu, k, xs, key_is I.hok ak hd, dd, h _ _ (I.tok _) ?_⟩
    rw [l]
    exact (rel.val k).getD rd
theorem isLD_of {P : Program} {w : World} {h' : Heap} {kvs : List (Option Str × V)} {vs : List (Leaf × Value)} (z : kvs.length ≤ sizeLine) (rel : KV (lfs kvs) vs) (dd : h'.DictOf (leafKind P w) a vs) : ∃ o, h'.get? a = some o ∧ IsLD P w o kvs := by
  obtain ⟨o, es, ep, h1, h2, h3, h4, h5, h6⟩ := dd
  exact ⟨o, h1, z, es, ep, vs, h2, h3, h4, h5, h6, rel⟩
theorem isND_of {P : Program} {w : World} {h' : Heap} {kvs : List (D × V)} {xs : List (D × Addr × Value)} (z : kvs.length ≤ sizeLine) (rel : Ent H kvs xs) (dd : h'.DictOfH (nestedKind P w) a xs) : ∃ o, h'.get? a = some o ∧ IsND P w H o kvs := by
  obtain ⟨o, es, ep, h1, h2, h3, h4, _, h6⟩ := dd
  exact ⟨o, h1, z, es, ep, xs, h2, h3, h4, h6, rel⟩
theorem dp_setItem {R : Hp → Prop} {Q : Unit → Shared → Prop} (hu : A.units + 64 < cLine) (I : Inv X pins σ H s) (g : DP X.prog X.w H a y v R) (ry : RelV y u) (rv : RelV v r) (h : ∀ H' s', Inv X pins σ H' s' → R H' → Q () s') :
    wpAny (model X.prog X.w) A (setItem (.ref a) u r) Q E s := by
  rcases g with ⟨kvs, k, e, ey, l, kR⟩ | ⟨kvs, k, b, e, ey, ak, hd, l, kR⟩
  · subst ey
    obtain ⟨_, o0, e0, _⟩ := id e
    obtain ⟨z, hs, vs, rel, dd⟩ := e.dict I.hok
    have hz : vs.length ≤ sizeLine := by
      rw [← rel.length]
      unfold lfs
      rw [List.length_map]
      exact z
    have hl : (putK kvs k v).length ≤ sizeLine := by have := length_putK kvs k v; omega
    refine wpAny_setItem_pairs (hsz := hz) (sg_is ry) dd fun h' dd' hsb => ?_
    obtain ⟨o, ho, i⟩ := isLD_of hl (by rw [← putK_lfs]; exact rel.put (lf k) rv) dd'
    exact h _ _ (Inv.rawset I e0 hsb ho) (kR o i)
  · subst ey
    cases (show u = Value.ref b from ry)
    obtain ⟨_, o0, e0, _⟩ := id e
    obtain ⟨z, hs, xs, rel, dd⟩ := e.dict I.hok
    have hz : xs.length ≤ sizeLine := by rw [← rel.length]; exact z
    have hl : (putK kvs k v).length ≤ sizeLine := by have := length_putK kvs k v; omega
    refine wpAny_setItem_heap (hsz := hz) (room8 hu) (key_is I.hok ak hd) dd fun h' dd' hsb => ?_
    obtain ⟨o, ho, i⟩ := isND_of (H := H) hl (rel.put ak hd rv) dd'
    exact h _ _ (Inv.rawset I e0 hsb ho) (kR o i)
theorem dg_typeIs (I : Inv X pins σ H s) (g : DG X.prog X.w H a y o) : s.TypeIs (.ref a) "dict" := by
  rcases g with ⟨kvs, k, e, _, _⟩ | ⟨kvs, k, b, e, _⟩
  · obtain ⟨_, _, vs, _, dd⟩ := e.dict I.hok
    exact dd.typeIs
  · obtain ⟨_, _, xs, _, dd⟩ := e.dict I.hok
    exact dd.typeIs
end

/-- a is a dict tracked by its object -/
def IsDict (H : Hp) (a : Addr) : Prop := ∃ o es ep, H a = some (raw a o) ∧ o.ExactDict ∧ o.data = .dict es ep ∧ (a == sysModules) = false
theorem LD.isDict {P : Program} {w : World} {H : Hp} {a : Addr} {kvs : List (Option Str × V)} (e : LD P w H a kvs) : IsDict H a := by
  obtain ⟨y, o, ho, z, es, ep, vs, h1, h2, _⟩ := e
  exact ⟨o, es, ep, ho, h1, h2, y⟩
theorem ND.isDict {P : Program} {w : World} {H : Hp} {a : Addr} {kvs : List (D × V)} (e : ND P w H a kvs) : IsDict H a := by
  obtain ⟨y, o, ho, z, es, ep, vs, h1, h2, _⟩ := e
  exact ⟨o, es, ep, ho, h1, h2, y⟩
theorem isDict_at {X : Cx} {pins : List (Addr × Obj)} {σ : L2.St} {H : Hp} {s : Shared} {a : Addr} (I : Inv X pins σ H s) (d : IsDict H a) :
    s.TypeIs (.ref a) "dict" ∧ (∀ b, Value.ref a = .ref b → ∃ ob, s.heap.get? b = some ob ∧ ob.dict = none) ∧ (a == sysModules) = false ∧ ∃ es ep, s.heap.DictRaw a es ep := by
  obtain ⟨o, es, ep, ho, hc, hd, y⟩ := d
  have hg := raw_get I.hok ho
  refine ⟨⟨o, hg, hc.1⟩, fun b q => ?_, y, es, ep, o, hg, hc, hd⟩
  cases q
  exact ⟨o, hg, hc.2.1⟩

/-! ### readings and rules -/
def tNGet (P : Program) (w : World) (td ty : TE) : TE := fun σ H Q => td σ H fun x H1 => ty σ H1 fun y H2 => ∃ a v, x = .ref a ∧ DG P w H2 a y (some v) ∧ Q v H2
def sNPut (P : Program) (w : World) (td ty tv : TE) : TS := fun D σ H => tv σ H fun v H1 => td σ H1 fun x H2 => ty σ H2 fun y H3 => ∃ a, x = .ref a ∧ DP P w H3 a y v (D.nx σ)
def tNGet2 (P : Program) (w : World) (td ty tx : TE) : TE := fun σ H Q => td σ H fun x H1 => ∃ a, x = .ref a ∧ IsDict H1 a ∧ ty σ H1 fun y H2 => tx σ H2 fun z H3 => ∃ o, DG P w H3 a y o ∧ Q (o.getD z) H3
/-- {} -/
def newD : Obj := { cls := .type "dict", data := .dict #[] }
def tNNew : TE := fun _ H Q => ∀ p, H p = none → (p == sysModules) = false → Q (.ref p) (upd H p (raw p newD))
theorem newD_LD (P : Program) (w : World) : IsLD P w newD [] := by
  obtain ⟨o, es, ep, h1, h2, h3, h4, h5, h6⟩ := Heap.DictOf.new (knd := leafKind P w) (default : Heap)
  rw [Heap.get?_push_size _ rfl] at h1
  cases h1
  exact ⟨Nat.zero_le _, es, ep, [], h2, h3, h4, h5, h6, .nil⟩
theorem newD_ND (P : Program) (w : World) (H : Hp) : IsND P w H newD [] := ⟨Nat.zero_le _, #[], 0, [], ⟨rfl, rfl, rfl⟩, rfl, rfl, List.nodup_nil, .nil⟩
section
variable {X : Cx} {o i e f value : Expr} {pos pos' tpos apos cpos : Pos} {td ty tv tx : TE}
theorem pe_nget (hu : X.A.units + 64 < cLine) (ho : PE X o td) (hi : PE X i ty) (hs : NoSl i) : PE X (.Subscript o i pos) (tNGet X.prog X.w td ty) := by
  refine ⟨fun pins s σ H Q I h => ?_⟩
  refine subD_of PySem.F.slot_dict_getitem.lookup hs (thn (ho.run pins s σ H _ I h) fun u s1 ⟨x, H1, I1, rx, q1⟩ => thn (hi.run pins s1 σ H1 _ I1 q1) fun iv s2 ⟨y, H2, I2, ry, a, v, ex, g, q2⟩ => ?_)
  subst ex
  obtain rfl : u = Value.ref a := rx
  exact ⟨dg_typeIs I2 g, dg_getItem hu I2 g ry fun w' s3 I3 rw' => ⟨v, H2, I3, rw', q2⟩⟩
theorem ps_nput (hu : X.A.units + 64 < cLine) (ho : PE X o td) (hi : PE X i ty) (hv : PE X value tv) (hs : swapsWith value (some (.Subscript o i pos')) pos.line X.env = pure false) :
    PS X (.Assign [.Subscript o i pos'] value pos) (sNPut X.prog X.w td ty tv) := by
  refine ⟨fun pins s σ H D I h => ?_⟩
  refine wpAny_Assign_Subscript (thn (hv.run pins s σ H _ I h) fun r s1 ⟨v, H1, I1, rv, q1⟩ => thn (ho.run pins s1 σ H1 _ I1 q1) fun u s2 ⟨x, H2, I2, rx, q2⟩ => thn (hi.run pins s2 σ H2 _ I2 q2) fun iv s3 ⟨y, H3, I3, ry, a, ex, g⟩ => ?_) hs
  subst ex
  obtain rfl : u = Value.ref a := rx
  exact dp_setItem hu I3 g ry rv fun H4 s4 I4 q => ⟨σ, H4, I4, q⟩
theorem pe_nget2 (hu : X.A.units + 64 < cLine) (ho : PE X o td) (he : PE X e ty) (hf : PE X f tx) (m : M2 X o "get" apos e f cpos) : PE X (.Call (.Attribute o "get" apos) [e, f] [] cpos) (tNGet2 X.prog X.w td ty tx) := by
  refine ⟨fun pins s σ H Q I h => ?_⟩
  refine wpAny_Call_method m.base m.few m.line PySem.F.plainAttrs_dict PySem.F.slot_dict_get PySem.F.type_dict_get (thn (ho.run pins s σ H _ I h) fun u s1 ⟨x, H1, I1, rx, a, ex, d, q1⟩ => ?_)
  subst ex
  obtain rfl : u = Value.ref a := rx
  obtain ⟨t1, t2, _⟩ := isDict_at I1 d
  refine ⟨t1, t2, ?_⟩
  rw [m.trees]
  refine Calls.callWith_builtin rfl (Calls.evalArgs_plain (Calls.spliced_cons (thn (he.run pins s1 σ H1 _ I1 q1) fun iv s2 ⟨y, H2, I2, ry, q2⟩ =>
    Calls.spliced_cons (thn (hf.run pins s2 σ H2 _ I2 q2) fun fv s3 ⟨z, H3, I3, rz, ov, g, q3⟩ => Calls.spliced_nil ?_))))
  exact dg_get2 hu I3 g ry rz fun w' s4 I4 rw' => ⟨_, H3, I4, rw', q3⟩
theorem pe_nnew : PE X (.Dict [] [] pos) tNNew := ⟨fun pins s σ H Q I h =>
  wpAny_Dict_empty ⟨.ref s.heap.objs.size, _, Inv.rawnew (o := newD) (t' := s.toks) I (fun _ _ q => Heap.get?_push_of_some _ q) (Nat.le_refl _) (Heap.get?_push_size _ rfl), rfl, h _ (I.hok.fresh (Nat.le_refl _)) (nosys I (Nat.le_refl _))⟩⟩
end

/-! ### a walk over the keys -/
/-- the keys, as values -/
def KeysAre (o : Obj) (ks : List V) : Prop := ∃ es ep, o.ExactDict ∧ o.data = .dict es ep ∧ Vals ks (es.toList.map (·.key))
def Itn (d : Addr) (o : Obj) (ks : List V) : It := ⟨fun i H => H d = some (raw d o) ∧ i < ks.length, fun i H x H' => H' = H ∧ ks[i]? = some x, fun i H => H d = some (raw d o) ∧ ks.length ≤ i⟩
theorem walk_n {d : Addr} {o : Obj} {ks : List V} : Walk (Itn d o ks) ks.length (fun H => H d = some (raw d o)) (YAt ks) :=
  ⟨fun _ _ hi q => ⟨q, hi⟩, fun _ q => ⟨q, Nat.le_refl _⟩, fun _ _ _ _ _ _ y => y⟩
theorem turn_n {P : Program} {w : World} {K : PySem.W.Frag} {tg : Expr} {d : Addr} {o : Obj} {ks : List V} {es : Array DictEntry} {ep : Nat} (it : Addr) (hx : o.ExactDict) (hd : o.data = .dict es ep) (hv : Vals ks (es.toList.map (·.key))) :
    Turn P w K tg (Itn d o ks) [it] it (fun i h => h.IsKeyIter it d i es.size ep) where
  mem := by simp
  obj := fun i h st b hb => by
    have e : b = it := by simpa using hb
    subst e
    obtain ⟨ob, e, _, dd⟩ := st
    exact ⟨ob, e, fun v z => by rw [dd] at z; cases z⟩
  keep := fun i h h' st k => st.at fun ob e => k it (by simp) ob e
  item := by
    intro X hP hw hK hc i pins s σ H E I hf st hg
    subst hP hw hK
    obtain ⟨hH, hi⟩ := hg
    have hg := raw_get I.hok hH
    obtain ⟨f0, f1, f2, f3, f4, f5⟩ := hf it (by simp)
    have hsz : ks.length = es.size := by
      rw [hv.length, List.length_map, Array.length_toList]
    have hie : i < es.size := by omega
    obtain ⟨u, hu, ru⟩ := hv.get (List.getElem?_eq_getElem hi)
    have eu : u = es[i].key := by
      rw [List.getElem?_map, Array.getElem?_toList, Array.getElem?_eq_getElem hie] at hu
      exact (Option.some.inj hu).symm
    refine wpAny_pyNext_keys_item_raw st ⟨o, hg, hx, hd⟩ hie fun h' st' sb => ?_
    have I1 : Inv X pins σ H { s with heap := h' } := I.turned (t' := s.toks) (fun b ob hb e => (sb.2 b hb).trans e) f0 f1 f3 f4 f5
    obtain ⟨oi, ei, ci, di⟩ := id st'
    exact ⟨es[i].key, rfl, go_of (s := { s with heap := h' }) ei ci di (by decide) ⟨ks[i], H, I1, by rw [← eu]; exact ru, ⟨rfl, List.getElem?_eq_getElem hi⟩, st', fun b hb => (hf b hb).1⟩⟩
  done := by
    intro X hP hw hK hc i pins s σ H E I hf st hg
    subst hP hw hK
    obtain ⟨hH, hi⟩ := hg
    have hg := raw_get I.hok hH
    obtain ⟨f0, f1, f2, f3, f4, f5⟩ := hf it (by simp)
    have hsz : ks.length = es.size := by
      rw [hv.length, List.length_map, Array.length_toList]
    exact wpAny_pyNext_keys_end_raw (I.ok.hd hc) st ⟨o, hg, hx, hd⟩ (by omega) fun h' eb => ⟨rfl, I.turned (t' := s.toks) (fun b ob hb e => eb b ob hb e) f0 f1 f3 f4 f5⟩
  self := fun A i s Q E st h => wpAny_pyIter_keyiter st h
def iNKeys (td : TE) : TI := fun σ H R => td σ H fun x H1 => ∃ d o ks, x = .ref d ∧ H1 d = some (raw d o) ∧ KeysAre o ks ∧ (d == sysModules) = false ∧ R (Itn d o ks) H1
theorem pi_nkeys {X : Cx} {tg l : Expr} {tl : TE} (hl : PE X l tl) : PI X tg l (iNKeys tl) := by
  refine ⟨fun pins s σ H R I h => ?_⟩
  refine thn (hl.run pins s σ H _ I h) fun v s1 ⟨x, H1, I1, r1, q1⟩ => ?_
  obtain ⟨d, o, ks, e, hH, ⟨es, ep, hx, hd, hv⟩, hs, q⟩ := q1
  subst e
  cases r1
  refine wpAny_pyIter_dict_raw hs ⟨o, raw_get I1.hok hH, hx, hd⟩ ?_
  exact pi_one (tk := s1.toks) I1 _ (turn_n _ hx hd hv) ⟨_, Heap.get?_push_size _ rfl, rfl, rfl⟩ q
theorem keys_LD {P : Program} {w : World} {o : Obj} {kvs : List (Option Str × V)} (h : IsLD P w o kvs) : KeysAre o (kvs.map fun p => sg p.1) := by
  obtain ⟨z, es, ep, vs, h1, h2, h3, h4, h5, r⟩ := h
  refine ⟨es, ep, h1, h2, ?_⟩
  have go : ∀ {l : List DictEntry} {vs : List (Leaf × Value)} {kvs : List (Option Str × V)}, Pairs (leafKind P w) l vs → KV (lfs kvs) vs → Vals (kvs.map fun p => sg p.1) (l.map (·.key)) := by
    intro l
    induction l with
    | nil =>
      intro vs kvs p r
      cases p
      cases kvs with
      | nil => exact .nil
      | cons a t => cases r
    | cons e l ih =>
      intro vs kvs p r
      cases p with
      | cons p1 p0 p2 =>
        cases kvs with
        | nil => cases r
        | cons a t =>
          cases r with
          | cons r1 r2 =>
            refine .cons ?_ (ih p2 r2)
            refine is_sg (P := P) (w := w) ?_
            have q := r1.1
            rw [show lf a.1 = _ from q]
            exact p1
  exact go h4 r
end Lt

/-! Lt, part C: further operations: list.count, text * number, comparisons of data, walks. -/
namespace Lt
open PySem PySem.Spec PyProof.Rows L2

section
variable {X : Cx}
/-- list.count of a flat value -/
def rCntV (K : PySem.W.Frag) : V → List V → Hp → VK → Prop := fun x xs H Q => ∃ (p : Addr) (ys : List V) (y : V), x = .ref p ∧ xs = [y] ∧ SqL K H p ys ∧ flatV y = true ∧ ys.all flatV = true ∧ Q (.int ((ys.countP fun z => eqV z y : Nat) : Int)) H
theorem count_eqU {x : V} : ∀ {xs : List V} {us : List Value}, Vals xs us → xs.all flatV = true → us.countP (eqU x) = xs.countP fun y => eqV y x
  | _, _, .nil, _ => rfl
  | y :: xs, u :: us, .cons r t, f => by
    rw [List.all_cons, Bool.and_eq_true] at f
    rw [List.countP_cons, List.countP_cons, eqU_of r f.1, count_eqU t f.2]
theorem mt_countV : MtR X "list.count" (rCntV X.K) := by
  intro pins s σ H x xs v us Q I rx rxs h
  obtain ⟨p, ys, y, rfl, rfl, hs, fy, fs, q⟩ := h
  cases rx
  obtain ⟨u, rfl, ru⟩ := rxs.one
  obtain ⟨its, rv, ⟨⟨cls, dd, data, sl⟩, n, ho, hc, hdn, hd⟩, hlen⟩ := I.list hs
  simp only at hc hd
  subst hc hd
  refine call_meets PySem.F.slot_list_count ⟨_, ho, rfl⟩ PySem.F.entry_list_count (PySem.F.args_list_count_2 _ _)
    (SeqAt.list_countAt p its.toArray n dd sl u (eqU y)) ⟨ho, fun z hz => mem_eqAt ru fy rv fs z (by simpa using hz), ?_⟩
  refine ⟨.int _, H, I.tok _, ⟨s.toks, ?_⟩, q⟩
  show Value.int ((its.toArray.toList.countP (eqU y) : Nat) : Int) s.toks = _
  rw [show its.toArray.toList = its from rfl, count_eqU rv fs]

/-- text * number -/
def repS (z : Str) (n : Int) : Str := ⟨((List.replicate n.toNat z.cps.toList).flatten).toArray⟩
theorem repS_len (z : Str) (n : Int) : (repS z n).length = n.toNat * z.length := by
  show ((List.replicate n.toNat z.cps.toList).flatten).toArray.size = _
  simp
  rfl
theorem rep_fold (z : Str) (n : Nat) : (List.replicate n z.cps).foldl (· ++ ·) #[] = ((List.replicate n z.cps.toList).flatten).toArray := by
  have go : ∀ (n : Nat) (acc : Array Nat), (List.replicate n z.cps).foldl (· ++ ·) acc = acc ++ ((List.replicate n z.cps.toList).flatten).toArray := by
    intro n
    induction n with
    | zero => intro acc; simp
    | succ n ih =>
      intro acc
      rw [List.replicate_succ, List.foldl_cons, ih, List.replicate_succ, List.flatten_cons]
      apply Array.ext'
      simp
  rw [go]
  simp
def rMulS : R2 := fun x y H Q => ∃ z n, x = .str z ∧ y = .int n ∧ 0 ≤ n ∧ n ≤ 1000 ∧ z.length ≤ 1000 ∧ Q (.str (repS z n)) H
theorem op_mulS : OpR X (binaryOp .Mult) rMulS := by
  intro pins s σ H x y v u Q I rx ry h
  obtain ⟨z, n, rfl, rfl, h0, h1, hz, q⟩ := h
  obtain ⟨t, rfl⟩ := rx
  obtain ⟨t', rfl⟩ := ry
  have hb : z.length * n.toNat ≤ 1000 * 1000 := Nat.mul_le_mul hz (by omega)
  refine PySem.P.mul_str ?_ (fun hn _ => ?_) (fun hn _ => ?_) ?_
  · have a1 : ¬ n < -(2 ^ 63 : Int) := by omega
    have a2 : ¬ n ≥ (2 ^ 63 : Int) := by omega
    rw [decide_eq_false a1, decide_eq_false a2]
    rfl
  · have h3 : (0 : Int) < n := by omega
    have h2 : (1000 : Int) ≤ (2 ^ 63 - 1) / n := by
      rw [Int.le_ediv_iff_mul_le h3]
      omega
    omega
  · have e : z.length * n.toNat ≤ sizeLine := Nat.le_trans hb (by rw [sizeLine_eq]; decide)
    unfold Builtin.Str.tooLong
    exact decide_eq_false (by omega)
  · by_cases hn : n < 1
    · rw [if_pos hn]
      have e : n = 0 := by omega
      subst e
      exact ⟨by decide, ⟨.str _, H, I.tok _, ⟨_, rfl⟩, q⟩⟩
    · rw [if_neg hn]
      by_cases hc : (n == 1 || z.length == 0) = true
      · rw [if_pos hc]
        have e : repS z n = z := by
          rw [Bool.or_eq_true, beq_iff_eq, beq_iff_eq] at hc
          unfold repS
          rcases hc with e | e
          · subst e
            show (⟨((List.replicate 1 z.cps.toList).flatten).toArray⟩ : Str) = z
            simp
          · have e2 : z.cps.toList = [] := by
              have : z.cps.size = 0 := e
              simpa using this
            rw [e2]
            have e3 : z.cps = #[] := by
              have := congrArg List.toArray e2
              simpa using this
            cases z
            simp at e3
            subst e3
            simp
        rw [e] at q
        exact ⟨.str _, H, I, ⟨_, rfl⟩, q⟩
      · rw [if_neg hc]
        refine ⟨?_, ⟨.str _, H, I.tok _, ⟨s.toks, ?_⟩, q⟩⟩
        · rw [rep_fold]
          show (repS z n).length ≤ sizeLine
          rw [repS_len, Nat.mul_comm, sizeLine_eq]
          omega
        · rw [rep_fold]
          all_goals rfl
end

/-! ### data compared -/
mutual
def py : D → PyData
  | .none => .none
  | .num i => .int i
  | .text x => .str x
  | .tup ks => .tuple (pys ks)
def pys : List D → List PyData
  | [] => []
  | k :: ks => py k :: pys ks
end
mutual
theorem eqv_py : ∀ a b : D, PyData.eqv (py a) (py b) = NestedKey.beq a b
  | .none, .none => rfl
  | .none, .num _ => rfl
  | .none, .text _ => rfl
  | .none, .tup _ => rfl
  | .num _, .none => rfl
  | .num a, .num b => by simp [py, PyData.eqv, NestedKey.beq, Bool.beq_eq_decide_eq]
  | .num _, .text _ => rfl
  | .num _, .tup _ => rfl
  | .text _, .none => rfl
  | .text _, .num _ => rfl
  | .text a, .text b => by simp [py, PyData.eqv, NestedKey.beq, Bool.beq_eq_decide_eq]
  | .text _, .tup _ => rfl
  | .tup _, .none => rfl
  | .tup _, .num _ => rfl
  | .tup _, .text _ => rfl
  | .tup a, .tup b => by simp only [py, PyData.eqv, NestedKey.beq]; exact eqv_pys a b
theorem eqv_pys : ∀ a b : List D, PyData.eqvAll (pys a) (pys b) = NestedKey.beqAll a b
  | [], [] => rfl
  | [], _ :: _ => rfl
  | _ :: _, [] => rfl
  | a :: as, b :: bs => by simp only [pys, PyData.eqvAll, NestedKey.beqAll]; rw [eqv_py a b, eqv_pys as bs]
end
theorem beqAll_decide (a b : List D) : NestedKey.beqAll a b = decide (a = b) := by
  cases h : NestedKey.beqAll a b with
  | true => exact (decide_eq_true (NestedKey.eq_of_beqAll a b h)).symm
  | false => exact (decide_eq_false fun e => by rw [e, NestedKey.beqAll_self] at h; cases h).symm
theorem eqv_list (a b : List D) : PyData.eqv (.list (pys a)) (.list (pys b)) = decide (a = b) := by
  rw [← beqAll_decide, ← eqv_pys, PyData.eqv]
theorem eqv_dec (a b : D) : PyData.eqv (py a) (py b) = decide (a = b) := by rw [eqv_py, NestedKey.decide_eq]
mutual
theorem At.dp {K : PySem.W.Frag} {H : Hp} : ∀ (d : D) (v : V), At H d v → Dp K H v (py d)
  | .none, _, h => by rw [h.of_non]; exact .non
  | .num i, _, h => by rw [h.of_int]; exact .int i
  | .text x, _, h => by rw [h.of_str]; exact .str x
  | .tup ks, _, h => by
    obtain ⟨b, xs, e, hb, hs⟩ := h.of_tup
    rw [e]
    exact .tup (SqT.of hb) (Ats.dp ks xs hs)
theorem Ats.dp {K : PySem.W.Frag} {H : Hp} : ∀ (ds : List D) (vs : List V), Ats H ds vs → DpAll K H vs (pys ds)
  | [], _, h => by rw [h.of_nil]; exact .nil
  | d :: ds, _, h => by
    obtain ⟨v, r, e, h1, h2⟩ := h.of_cons
    rw [e]
    exact .cons (At.dp d v h1) (Ats.dp ds r h2)
end
/-- it can be laid: texts of true signs -/
def okD (d : D) : Bool := (py d).canLay0
def okDs (ds : List D) : Bool := PyData.canLayAll0 (pys ds)
theorem okDs_cons {d : D} {ds : List D} : okDs (d :: ds) = (okD d && okDs ds) := rfl
theorem okDs_of : ∀ {ds : List D}, (∀ d ∈ ds, okD d = true) → okDs ds = true
  | [], _ => rfl
  | d :: ds, h => by
    rw [okDs_cons, h d (List.mem_cons_self), okDs_of fun x hx => h x (List.mem_cons_of_mem _ hx)]
    rfl
theorem okDs_mem : ∀ {ds : List D}, okDs ds = true → ∀ d ∈ ds, okD d = true
  | [], _, d, hd => by cases hd
  | e :: ds, h, d, hd => by
    rw [okDs_cons, Bool.and_eq_true] at h
    rcases List.mem_cons.mp hd with q | q
    · rw [q]; exact h.1
    · exact okDs_mem h.2 d q
theorem okD_tup {ks : List D} : okD (.tup ks) = okDs ks := rfl
theorem okD_num {i : Int} : okD (.num i) = true := rfl
theorem okDs_ints : ∀ ns : List Int, okDs (ns.map .num) = true := fun ns => okDs_of fun d hd => by
  obtain ⟨n, _, rfl⟩ := List.mem_map.mp hd
  rfl
/-- how deep -/
def dpD (d : D) : Nat := (py d).depth
def dpDs (ds : List D) : Nat := PyData.depthAll (pys ds)
theorem dpDs_le {n : Nat} : ∀ {ds : List D}, (∀ d ∈ ds, dpD d ≤ n) → dpDs ds ≤ n
  | [], _ => Nat.zero_le _
  | d :: ds, h => by
    show max (dpD d) (dpDs ds) ≤ n
    exact Nat.max_le.mpr ⟨h d (List.mem_cons_self), dpDs_le fun x hx => h x (List.mem_cons_of_mem _ hx)⟩
theorem dpD_tup {ks : List D} : dpD (.tup ks) = dpDs ks + 1 := by
  show (PyData.tuple (pys ks)).depth = _
  rw [PyData.depth]
  rfl
theorem dpD_leaf : dpD .none = 0 ∧ (∀ i, dpD (.num i) = 0) ∧ ∀ x, dpD (.text x) = 0 := by
  refine ⟨?_, fun i => ?_, fun x => ?_⟩ <;> (show PyData.depth _ = 0; simp only [py, PyData.depth])
theorem dpDs_ints (ns : List Int) : dpDs (ns.map .num) = 0 := Nat.le_zero.mp (dpDs_le fun d hd => by
  obtain ⟨n, _, rfl⟩ := List.mem_map.mp hd
  exact Nat.le_of_eq (dpD_leaf.2.1 n))
section
variable {X : Cx}
def rEqT : R2 := fun x y H Q => ∃ d e, At H d x ∧ At H e y ∧ okD d = true ∧ okD e = true ∧ dpD d ≤ 64 ∧ dpD e ≤ 64 ∧ Q (.bl (decide (d = e))) H
def rNeT : R2 := fun x y H Q => ∃ d e, At H d x ∧ At H e y ∧ okD d = true ∧ okD e = true ∧ dpD d ≤ 64 ∧ dpD e ≤ 64 ∧ Q (.bl (!decide (d = e))) H
theorem op_eqT (hu : X.A.units + 64 < cLine) : OpR X (compareOp .Eq) rEqT := by
  intro pins s σ H x y v u Q I rx ry h
  obtain ⟨d, e, hd, he, kd, ke, ld, le, q⟩ := h
  refine op_eqD hu pins s σ H x y v u Q I rx ry ⟨py d, py e, At.dp d x hd, At.dp e y he, ?_, ?_, ?_⟩
  · exact (Bool.and_eq_true _ _).mpr ⟨kd, decide_eq_true ld⟩
  · exact (Bool.and_eq_true _ _).mpr ⟨ke, decide_eq_true le⟩
  · rw [eqv_dec]
    exact q
theorem op_neT (hu : X.A.units + 64 < cLine) : OpR X (compareOp .NotEq) rNeT := by
  intro pins s σ H x y v u Q I rx ry h
  obtain ⟨d, e, hd, he, kd, ke, ld, le, q⟩ := h
  refine op_neD hu pins s σ H x y v u Q I rx ry ⟨py d, py e, At.dp d x hd, At.dp e y he, ?_, ?_, ?_⟩
  · exact (Bool.and_eq_true _ _).mpr ⟨kd, decide_eq_true ld⟩
  · exact (Bool.and_eq_true _ _).mpr ⟨ke, decide_eq_true le⟩
  · rw [eqv_dec]
    exact q
/-- lists of data -/
def rEqL (K : PySem.W.Frag) : R2 := fun x y H Q => ∃ p q xs ys ds es, x = .ref p ∧ y = .ref q ∧ SqL K H p xs ∧ SqL K H q ys ∧ Ats H ds xs ∧ Ats H es ys ∧ okDs ds = true ∧ okDs es = true ∧ dpDs ds ≤ 60 ∧ dpDs es ≤ 60 ∧ Q (.bl (decide (ds = es))) H
def rNeL (K : PySem.W.Frag) : R2 := fun x y H Q => ∃ p q xs ys ds es, x = .ref p ∧ y = .ref q ∧ SqL K H p xs ∧ SqL K H q ys ∧ Ats H ds xs ∧ Ats H es ys ∧ okDs ds = true ∧ okDs es = true ∧ dpDs ds ≤ 60 ∧ dpDs es ≤ 60 ∧ Q (.bl (!decide (ds = es))) H
theorem shaped_list {ds : List D} (k : okDs ds = true) (l : dpDs ds ≤ 60) : SeqAt.shaped (.list (pys ds)) = true := by
  refine (Bool.and_eq_true _ _).mpr ⟨?_, decide_eq_true ?_⟩
  · rw [PyData.canLay0]
    exact k
  · rw [PyData.depth]
    have : PyData.depthAll (pys ds) ≤ 60 := l
    omega
theorem op_eqL (hu : X.A.units + 64 < cLine) : OpR X (compareOp .Eq) (rEqL X.K) := by
  intro pins s σ H x y v u Q I rx ry h
  obtain ⟨p, q', xs, ys, ds, es, rfl, rfl, hp, hq, hd, he, kd, ke, ld, le, q⟩ := h
  refine op_eqD hu pins s σ H _ _ v u Q I rx ry ⟨.list (pys ds), .list (pys es), .lst hp (Ats.dp ds xs hd), .lst hq (Ats.dp es ys he), shaped_list kd ld, shaped_list ke le, ?_⟩
  rw [eqv_list]
  exact q
theorem op_neL (hu : X.A.units + 64 < cLine) : OpR X (compareOp .NotEq) (rNeL X.K) := by
  intro pins s σ H x y v u Q I rx ry h
  obtain ⟨p, q', xs, ys, ds, es, rfl, rfl, hp, hq, hd, he, kd, ke, ld, le, q⟩ := h
  refine op_neD hu pins s σ H _ _ v u Q I rx ry ⟨.list (pys ds), .list (pys es), .lst hp (Ats.dp ds xs hd), .lst hq (Ats.dp es ys he), shaped_list kd ld, shaped_list ke le, ?_⟩
  rw [eqv_list]
  exact q
end
/-- signs as data -/
def sd : Option Str → D
  | none => .none
  | some x => .text x
theorem sd_at {H : Hp} (o : Option Str) : At H (sd o) (sg o) := by
  cases o
  · exact At.non
  · exact At.str
theorem sd_inj {a b : Option Str} (h : sd a = sd b) : a = b := by
  cases a <;> cases b <;> first | rfl | (injection h with h; rw [h]) | cases h
theorem sds_at {H : Hp} : ∀ ss : List (Option Str), Ats H (ss.map sd) (ss.map sg)
  | [] => Ats.nil
  | s :: ss => Ats.cons (sd_at s) (sds_at ss)
theorem sds_inj : ∀ {a b : List (Option Str)}, a.map sd = b.map sd → a = b
  | [], [], _ => rfl
  | [], _ :: _, h => by simp at h
  | _ :: _, [], h => by simp at h
  | x :: a, y :: b, h => by
    rw [List.map_cons, List.map_cons] at h
    injection h with h1 h2
    rw [sd_inj h1, sds_inj h2]
theorem sds_dec (a b : List (Option Str)) : decide (a.map sd = b.map sd) = decide (a = b) := decide_eq_decide.mpr ⟨sds_inj, fun e => by rw [e]⟩
theorem dp_sd : ∀ o : Option Str, dpD (sd o) = 0
  | none => dpD_leaf.1
  | some x => dpD_leaf.2.2 x
theorem sds_dp (ss : List (Option Str)) : dpDs (ss.map sd) ≤ 60 := dpDs_le fun d hd => by
  obtain ⟨o, _, rfl⟩ := List.mem_map.mp hd
  rw [dp_sd]
  decide
/-- a sign that one may be told: small letters -/
def IsSign (s : Str) : Prop := 1 ≤ s.length ∧ s.length ≤ 8 ∧ ∀ c ∈ s.cps.toList, 97 ≤ c ∧ c ≤ 122
def IsSg : Option Str → Prop
  | none => True
  | some s => IsSign s
theorem IsSign.ok {s : Str} (h : IsSign s) : okD (.text s) = true := by
  show (PyData.str s).canLay0 = true
  rw [PyData.canLay0]
  show s.cps.all (· < 0x110000) = true
  rw [← Array.all_toList, List.all_eq_true]
  intro c hc
  have := h.2.2 c hc
  exact decide_eq_true (by omega)
theorem IsSg.ok {o : Option Str} (h : IsSg o) : okD (sd o) = true := by
  cases o
  · rfl
  · exact IsSign.ok h
theorem IsSg.oks {ss : List (Option Str)} (h : ∀ s ∈ ss, IsSg s) : okDs (ss.map sd) = true := okDs_of fun d hd => by
  obtain ⟨o, ho, rfl⟩ := List.mem_map.mp hd
  exact (h o ho).ok
theorem sg_flat (o : Option Str) : flatV (sg o) = true := by cases o <;> rfl
theorem sgs_flat (ss : List (Option Str)) : (ss.map sg).all flatV = true := by
  rw [List.all_map, List.all_eq_true]
  intro o _
  exact sg_flat o
theorem eqV_sg (a b : Option Str) : eqV (sg a) (sg b) = (a == b) := by
  cases a <;> cases b <;> first | rfl | (simp [sg, eqV])
theorem countP_sg (o : Option Str) : ∀ ss : List (Option Str), (ss.map sg).countP (fun z => eqV z (sg o)) = ss.count o
  | [] => rfl
  | s :: ss => by rw [List.map_cons, List.countP_cons, List.count_cons, countP_sg o ss, eqV_sg]
theorem scal_sg (a b : Option Str) : scal (sg a) (sg b) = true := by cases a <;> cases b <;> rfl
theorem dec_sg (a b : Option Str) : decide (sg a = sg b) = decide (a = b) := decide_eq_decide.mpr ⟨sg_inj, fun e => by rw [e]⟩
theorem walk_listN {K : PySem.W.Frag} {a : Addr} {xs : List V} {n : Nat} (h : xs.length = n) : Walk (Itl K a) n (fun H => SqL K H a xs) (YAt xs) := by
  subst h
  exact walk_list
theorem walk_tupN {K : PySem.W.Frag} {a : Addr} {xs : List V} {n : Nat} (h : xs.length = n) : Walk (Itt K a) n (fun H => SqT K H a xs) (YAt xs) := by
  subst h
  exact walk_tup
theorem valV_mem {κ : Type} [DecidableEq κ] {kvs : List (κ × V)} {k : κ} {v : V} (h : valV kvs k = some v) : (k, v) ∈ kvs := by
  unfold valV at h
  obtain ⟨p, hp, e⟩ := Option.map_eq_some_iff.mp h
  have h1 := List.find?_some hp
  have h2 := List.mem_of_find?_eq_some hp
  simp only [decide_eq_true_eq] at h1
  rw [← h1, ← e]
  exact h2

/-! ### the rules with the written part told -/
section
variable {X : Cx} {K : PySem.W.Frag}
theorem ix_listK (e : X.K = K) : IxR X (rIxL K) := e ▸ ix_list
theorem ix_tupK (e : X.K = K) : IxR X (rIxT K) := e ▸ ix_tup
theorem in_seqK (e : X.K = K) : OpR X (compareOp .In) (rIn K false) := e ▸ op_in_seq
theorem notIn_seqK (e : X.K = K) : OpR X (compareOp .NotIn) (rIn K true) := e ▸ op_notIn_seq
def rLenQ (K : PySem.W.Frag) : List V → Hp → VK → Prop := fun xs H Q => ∃ p ys, xs = [.ref p] ∧ (SqL K H p ys ∨ SqT K H p ys) ∧ Q (.int ys.length) H
theorem len_seqK (e : X.K = K) : CallR X (.builtin "len") (rLenQ K) := e ▸ call_len_seq
theorem sl_listK (e : X.K = K) : SlR X (rSlL K) := e ▸ sl_list
theorem sl_tupK (e : X.K = K) : SlR X (rSlT K) := e ▸ sl_tup
theorem countVK (e : X.K = K) : MtR X "list.count" (rCntV K) := e ▸ mt_countV
theorem indexK (e : X.K = K) : MtR X "list.index" (rIndex K) := e ▸ mt_index
theorem isiK (e : X.K = K) : CallR X (.builtin "isinstance") (rIsi K) := e ▸ call_isi
def rListQ (K : PySem.W.Frag) : List V → Hp → VK → Prop := fun xs H Q => ∃ p ys, xs = [.ref p] ∧ (SqL K H p ys ∨ SqT K H p ys) ∧ ∀ l, H l = none → Q (.ref l) (upd H l (.lst ys))
theorem list_ofK (e : X.K = K) : CallR X (.type "list") (rListQ K) := e ▸ call_list_of
theorem eqLK (e : X.K = K) (hu : X.A.units + 64 < cLine) : OpR X (compareOp .Eq) (rEqL K) := e ▸ op_eqL hu
theorem neLK (e : X.K = K) (hu : X.A.units + 64 < cLine) : OpR X (compareOp .NotEq) (rNeL K) := e ▸ op_neL hu
theorem pi_listK {tg l : Expr} {tl : TE} (e : X.K = K) (hl : PE X l tl) : PI X tg l (iList K tl) := e ▸ pi_list hl
theorem pi_tupK {tg l : Expr} {tl : TE} (e : X.K = K) (hl : PE X l tl) : PI X tg l (iTup K tl) := e ▸ pi_tup hl
theorem pg_tupK {es : List Expr} {k : Nat} {t : TGs} {n : Nat} {pos : Pos} (e : X.K = K) (hc : X.calm = true) (h : PGs X es t)
    (hn : (assignEach es X.env).length = n := by rfl) (hst : (assignEach es X.env).findIdx? (·.1) = none := by rfl) : PG X (.Tuple es k pos) (gTup K n t) := e ▸ pg_tup hc h hn hst
theorem pe_fldK {e : Expr} {ta : TE} {f : Str} {pos : Pos} (q : X.K = K) (ha : PE X e ta) (hb : attributeBase e f X.env (eval e X.env) = eval e X.env) : PE X (.Attribute e f pos) (tFld K ta f) := q ▸ pe_fld ha hb
section
variable {T : String} {r : V → List V → Hp → VK → Prop} {to : TE} {t : TA}
theorem bmK {e : Expr} (q : X.K = K) (h : PE X e (tBM X.K T r to t)) : PE X e (tBM K T r to t) := q ▸ h
theorem bm0K {e : Expr} (q : X.K = K) (h : PE X e (tBM0 X.K T r to)) : PE X e (tBM0 K T r to) := q ▸ h
end
section
variable {P : Program} {w : World} {o i e f value : Expr} {pos pos' tpos apos cpos : Pos} {td ty tv tx : TE}
theorem pe_ngetK (q : X.prog = P) (z : X.w = w) (hu : X.A.units + 64 < cLine) (ho : PE X o td) (hi : PE X i ty) (hs : NoSl i) : PE X (.Subscript o i pos) (tNGet P w td ty) := by
  subst q z
  exact pe_nget hu ho hi hs
theorem ps_nputK (q : X.prog = P) (z : X.w = w) (hu : X.A.units + 64 < cLine) (ho : PE X o td) (hi : PE X i ty) (hv : PE X value tv) (hs : swapsWith value (some (.Subscript o i pos')) pos.line X.env = pure false) :
    PS X (.Assign [.Subscript o i pos'] value pos) (sNPut P w td ty tv) := by
  subst q z
  exact ps_nput hu ho hi hv hs
theorem pe_nget2K (q : X.prog = P) (z : X.w = w) (hu : X.A.units + 64 < cLine) (ho : PE X o td) (he : PE X e ty) (hf : PE X f tx) (m : M2 X o "get" apos e f cpos) : PE X (.Call (.Attribute o "get" apos) [e, f] [] cpos) (tNGet2 P w td ty tx) := by
  subst q z
  exact pe_nget2 hu ho he hf m
end
end

/-! ### a comprehension of data -/
theorem range_filterMap {α : Type} (F : Nat → Option α) (n : Nat) : (List.range (n + 1)).filterMap F = (List.range n).filterMap F ++ (match F n with | some d => [d] | none => []) := by
  rw [List.range_succ, List.filterMap_append]
  congr 1
  cases h : F n <;> simp [h]
theorem lc_data {J : It} {n : Nat} {G : Hp → Prop} {Y : Nat → Hp → V → Hp → Prop} (wk : Walk J n G Y) {g : TG} {tt : TT} {te : TE} {vs : List Nat} {σ : L2.St} {H1 : Hp} {D' : Addr} {Qd : Hp → Prop} (hD : H1 D' = none) (hn : n ≤ 100000) (F : Nat → Option D)
    (hG : ∀ H', Le H1 H' → G H')
    (hs : ∀ i x H' H'', i < n → Le H1 H' → Y i H' x H'' → ∀ (Yk : V → Hp → Prop) (Nk : Hp → Prop), (∀ y H4 d, Le H' H4 → F i = some d → At H4 d y → Yk y H4) → (∀ H3, Le H' H3 → F i = none → Nk H3) →
      g x (wipe σ vs) H'' fun σ2 H2 => wipe σ2 vs = wipe σ vs ∧ tt σ2 H2 fun b H3 => if b = true then te σ2 H3 Yk else Nk H3)
    (hd : ∀ H' xs, Le H1 H' → H' D' = some (.lst xs) → Ats H' ((List.range n).filterMap F) xs → Qd H') :
    ∃ W : Nat → Nat → Hp → Prop, (∃ m, W 0 m (L2.upd H1 D' (.lst []))) ∧ ∀ i m H, W i m H →
      (J.stop i H ∧ Qd H) ∨ (J.go i H ∧ ∃ Nx : Hp → Prop, (∀ H', Nx H' → ∃ m', m' < m ∧ W (i + 1) m' H') ∧ ∀ x H', J.yld i H x H' → g x (wipe σ vs) H' fun σ2 H2 => wipe σ2 vs = wipe σ vs ∧ tt σ2 H2 fun b H3 =>
        if b = true then te σ2 H3 fun y H4 => ∃ acc, H4 D' = some (.lst acc) ∧ acc.length < sizeLine ∧ Nx (L2.upd H4 D' (.lst (acc ++ [y]))) else Nx H3) := by
  refine lc_it wk (fun i H' => Le H1 H' ∧ ∃ xs, H' D' = some (.lst xs) ∧ Ats H' ((List.range i).filterMap F) xs) ⟨.new hD, [], upd_same, Ats.nil⟩ (fun i H' _ h => hG H' h.1) (fun i x H' H'' hi h hy => ?_) (fun H' h => ?_)
  · obtain ⟨l, xs, hx, ha⟩ := h
    refine hs i x H' H'' hi l hy _ _ (fun y H4 d l4 hF hd' => ?_) (fun H3 l3 hF => ?_)
    · have hl : xs.length ≤ i := by
        rw [ha.length]
        exact Nat.le_trans (List.length_filterMap_le _ _) (by rw [List.length_range]; exact Nat.le_refl _)
      refine ⟨xs, l4.lst hx, Nat.lt_of_le_of_lt (Nat.le_trans hl (by omega : i ≤ 100000)) (by rw [sizeLine_eq]; decide), (l.trans l4).mut hD, _, upd_same, ?_⟩
      rw [range_filterMap, hF]
      exact Ats.app ((ha.le l4).tp (tups_upd (l4.lst hx) (fun _ z => nomatch z))) (Ats.cons (hd'.tp (tups_upd (l4.lst hx) (fun _ z => nomatch z))) Ats.nil)
    · refine ⟨l.trans l3, xs, l3.lst hx, ?_⟩
      rw [range_filterMap, hF]
      simpa using ha.le l3
  · obtain ⟨l, xs, hx, ha⟩ := h
    exact hd H' xs l hx ha
theorem scal_int {i j : Int} : scal (.int i) (.int j) = true := rfl
theorem scal_str {i j : Str} : scal (.str i) (.str j) = true := rfl
theorem scal_bl {i j : Bool} : scal (.bl i) (.bl j) = true := rfl

/-! ### where ways meet: what follows is shown once -/
def tJoin (t u : TS) : TS := fun D σ H => ∃ Mid : L2.St → Hp → Prop, t { D with nx := Mid } σ H ∧ ∀ σ' H', Mid σ' H' → u D σ' H'
theorem pss_join {X : Cx} {st : Stmt} {rest : List Stmt} {t u : TS} (h1 : PS X st t) (h2 : PSs X rest u) : PSs X (st :: rest) (tJoin t u) := by
  refine ⟨fun pins s σ H D I h => ?_⟩
  obtain ⟨Mid, ht, hu⟩ := h
  refine wpAny_execs_cons (thn (h1.run pins s σ H { D with nx := Mid } I ht) fun fl s1 q => ?_)
  cases fl with
  | ret v => exact q
  | brk => exact q
  | cont => exact q
  | next =>
    obtain ⟨σ1, H1, I1, m⟩ := q
    exact h2.run pins s1 σ1 H1 D I1 (hu σ1 H1 m)
def iv : V → Int
  | .int n => n
  | _ => 0
theorem ats_sd {H : Hp} : ∀ {Z : List (Option Str)} {ys : List V}, Ats H (Z.map sd) ys → ys = Z.map sg
  | [], _, h => h.of_nil
  | z :: Z, _, h => by
    obtain ⟨v, r, e, h1, h2⟩ := Ats.of_cons h
    rw [e, ats_sd h2, List.map_cons]
    congr 1
    cases z with
    | none => exact h1.of_non
    | some x => exact h1.of_str

theorem ixN_of {n : Nat} {z : Int} (h0 : 0 ≤ z) (h1 : z < n) : ixN n z = some z.toNat := by
  unfold ixN
  rw [if_pos h0, if_pos h1]

/-! ### calls of own defs that let nothing out -/
structure Cal (P : Program) (w : World) (K : PySem.W.Frag) (mg : Str → Option Value) (base : Heap) (CX : CXT) (k : Nat) (x : Str) (ps : List Str) (sp : Sp) (f : Addr) (fd : FuncData) : Prop where
  ok : FnOk P w K mg base CX k f fd ps sp
  gl : mg x = some (.ref f)
  kp : PySem.W.keepIn K (.ref f) = true
  bd : Binds K fd ps []
section
variable {X : Cx} {k : Nat} {x : Str} {ps : List Str} {sp : Sp} {f : Addr} {fd : FuncData} {p pos : Pos} {e : Expr} {es : List Expr} {t : TA}
theorem pe_own (c : Cal X.prog X.w X.K X.mg X.base CX0 k x ps sp f fd) (hr : Room k X.A) (hg : Gl X x) (ha : PA X (e :: es) t) (hdb : (x == ("__debug__" : Str)) = false := by decide)
    (he : starEach (e :: es) X.env = (false, eval e X.env) :: starEach es X.env := by rfl) (hpl : (backTo pos (starEach es X.env)).any (·.1) = false := by rfl) :
    PE X (.Call (.Name x p) (e :: es) [] pos) (tCall sp [] E0 t) := pe_call c.ok hr hg c.gl c.kp c.bd .nil pass0 ha hdb he hpl
end

/-! ### the builtins' names -/
theorem bb_range : bootBuiltins "range" = some (.type "range") := by decide +kernel
theorem bb_str : bootBuiltins "str" = some (.type "str") := by decide +kernel
theorem bb_int : bootBuiltins "int" = some (.type "int") := by decide +kernel
theorem bb_bool : bootBuiltins "bool" = some (.type "bool") := by decide +kernel
theorem bb_list : bootBuiltins "list" = some (.type "list") := by decide +kernel
theorem bb_tuple : bootBuiltins "tuple" = some (.type "tuple") := by decide +kernel
theorem bb_dict : bootBuiltins "dict" = some (.type "dict") := by decide +kernel
theorem bb_set : bootBuiltins "set" = some (.type "set") := by decide +kernel
theorem bb_enumerate : bootBuiltins "enumerate" = some (.type "enumerate") := by decide +kernel
theorem bb_len : bootBuiltins "len" = some (.builtin "len") := by decide +kernel
theorem bb_isinstance : bootBuiltins "isinstance" = some (.builtin "isinstance") := by decide +kernel
theorem bb_min : bootBuiltins "min" = some (.builtin "min") := by decide +kernel
theorem bb_max : bootBuiltins "max" = some (.builtin "max") := by decide +kernel
theorem bb_sum : bootBuiltins "sum" = some (.builtin "sum") := by decide +kernel
theorem bb_all : bootBuiltins "all" = some (.builtin "all") := by decide +kernel
structure Bt (mg : Str → Option Value) : Prop where
  b_range : mg "range" = none
  b_str : mg "str" = none
  b_int : mg "int" = none
  b_bool : mg "bool" = none
  b_list : mg "list" = none
  b_tuple : mg "tuple" = none
  b_dict : mg "dict" = none
  b_set : mg "set" = none
  b_enumerate : mg "enumerate" = none
  b_len : mg "len" = none
  b_isinstance : mg "isinstance" = none
  b_min : mg "min" = none
  b_max : mg "max" = none
  b_sum : mg "sum" = none
  b_all : mg "all" = none
end Lt

/-! Lt, part D: dicts: length, list of the keys, a copy, two the same, cleared. -/
namespace Lt
open PySem PySem.Spec PyProof.Rows L2

section
variable {X : Cx}
/-- how many keys the object has -/
def SizeIs (o : Obj) (n : Nat) : Prop := ∃ es ep, o.ExactDict ∧ o.data = .dict es ep ∧ es.size = n
theorem size_ND {P : Program} {w : World} {H : Hp} {o : Obj} {kvs : List (D × V)} (h : IsND P w H o kvs) : SizeIs o kvs.length := by
  obtain ⟨z, es, ep, xs, h1, h2, h3, h4, r⟩ := h
  exact ⟨es, ep, h1, h2, by rw [size_of_entries h3, r.length]⟩
def rLenN : List V → Hp → VK → Prop := fun xs H Q => ∃ d o n, xs = [.ref d] ∧ H d = some (raw d o) ∧ SizeIs o n ∧ (d == sysModules) = false ∧ n ≤ sizeLine ∧ Q (.int n) H
theorem call_lenN : CallR X (.builtin "len") rLenN := by
  intro pins s σ H xs us Q I r h
  obtain ⟨d, o, n, rfl, hd, ⟨es, ep, h1, h2, h3⟩, hs, hn, q⟩ := h
  obtain ⟨u, rfl, ru⟩ := vals1 r
  cases ru
  have hr : s.heap.DictRaw d es ep := ⟨o, raw_get I.hok hd, h1, h2⟩
  rw [sizeLine_eq] at hn
  refine call_len_slot (n := (n : Int)) hr.typeIs PySem.F.slot_dict_len (fun Q' hq => call_len_raw hs hr ?_) (by omega) (by omega) ⟨.int n, H, I.tok _, ⟨_, rfl⟩, q⟩
  rw [h3]
  exact hq
/-- list(d) -/
def rListN : List V → Hp → VK → Prop := fun xs H Q => ∃ d o ks, xs = [.ref d] ∧ H d = some (raw d o) ∧ KeysAre o ks ∧ (d == sysModules) = false ∧ ks.length ≤ sizeLine ∧ ∀ p, H p = none → Q (.ref p) (L2.upd H p (.lst ks))
theorem call_listN (hc : X.calm = true) : CallR X (.type "list") rListN := by
  intro pins s σ H xs us Q I r h
  obtain ⟨d, o, ks, rfl, hd, ⟨es, ep, h1, h2, hv⟩, hs, hn, q⟩ := h
  obtain ⟨u, rfl, ru⟩ := vals1 r
  cases ru
  have hr : s.heap.DictRaw d es ep := ⟨o, raw_get I.hok hd, h1, h2⟩
  have hsz : ks.length = es.size := by
    rw [hv.length, List.length_map, Array.length_toList]
  refine PySem.W.kdl_call (KdlSrc.rawDict hs) (I.ok.hd hc) hr (by rw [← hsz]; exact hn) fun h' tk acc c' kp e it => ?_
  refine ⟨.ref s.heap.objs.size, _, I.laid (t' := tk) (o := .lst ks) kp (Nat.le_refl _) ⟨hn, acc.toList, c', ?_, by rw [Array.toArray_toList]; exact e⟩, rfl, q _ (I.hok.fresh (Nat.le_refl _))⟩
  have ea : acc.toList = es.toList.map (·.key) := by
    refine List.ext_getElem? fun i => ?_
    rw [List.getElem?_map, Array.getElem?_toList, Array.getElem?_toList]
    by_cases hi : i < es.size
    · have ha : i < acc.size := by rw [it.1]; exact hi
      obtain ⟨_, e2⟩ := it.2 i acc[i] (Array.getElem?_eq_getElem ha)
      rw [Array.getElem?_eq_getElem ha, Array.getElem?_eq_getElem hi, e2]
      rfl
    · have ha : ¬ i < acc.size := by rw [it.1]; exact hi
      rw [Array.getElem?_eq_none (by omega), Array.getElem?_eq_none (by omega)]
      rfl
  rw [ea]
  exact hv
theorem keys_ND {P : Program} {w : World} {H : Hp} {o : Obj} {kvs : List (D × V)} (h : IsND P w H o kvs) : ∃ ks, KeysAre o ks ∧ Ats H (kvs.map (·.1)) ks := by
  obtain ⟨z, es, ep, xs, h1, h2, h3, h4, r⟩ := h
  refine ⟨xs.map fun x => .ref x.2.1, ⟨es, ep, h1, h2, ?_⟩, ?_⟩
  · rw [h3, List.map_map]
    have go : ∀ l : List (D × Addr × Value), Vals (l.map fun x => V.ref x.2.1) (l.map ((fun e : DictEntry => e.key) ∘ entryOfKey (nestedKind P w))) := by
      intro l
      induction l with
      | nil => exact .nil
      | cons a l ih => exact .cons rfl ih
    exact go xs
  · unfold Ent at r
    clear h3 h4 z
    induction r with
    | nil => exact Ats.nil
    | cons h t ih => exact Ats.cons h.2.1.1 ih

/-- two dicts the same -/
theorem same_nd {pins : List (Addr × Obj)} {σ : L2.St} {H : Hp} {s : Shared} {A : Around} {E : Value → Shared → Prop} {nm : String} {a b : Addr} {ka kb : List (D × V)} {Q : Bool → Shared → Prop} (hu : A.units + 60 < cLine) (I : Inv X pins σ H s)
    (ha : ND X.prog X.w H a ka) (hb : ND X.prog X.w H b kb) (hl : ka.length = kb.length) (hp : ∀ p ∈ ka, valV kb p.1 = some p.2 ∧ flatB p.2 = true) (h : Q true s) :
    wpAny (model X.prog X.w) A (Builtin.Dict.samePairs nm a b) Q E s := by
  obtain ⟨za, sa, xa, ra, oa, ea, pa, ga, _, da, la, ia, na⟩ := ha.dict I.hok
  obtain ⟨zb, sb, xb, rb, ob, eb, pb, gb, _, db, lb, ib, nb⟩ := hb.dict I.hok
  have sza : ea.size = xa.length := size_of_entries la
  have szb : eb.size = xb.length := size_of_entries lb
  have hsz : ea.size = eb.size := by rw [sza, szb, ← ra.length, ← rb.length, hl]
  unfold Builtin.Dict.samePairs Builtin.Dict.showsAll
  rw [if_neg (by rw [sa]; exact Bool.false_ne_true), if_neg (by rw [sb]; exact Bool.false_ne_true)]
  refine wpAny_bind (wpAny_pure (wpAny_bind (wpAny_pure (wpAny_bind (wpAny_dictEntries ga da ?_)))))
  dsimp only
  refine wpAny_bind (wpAny_dictEntries gb db ?_)
  rw [if_neg (by rw [hsz]; simp)]
  refine wpAny_bind (wpAny_dictEpoch ga da (wpAny_bind ?_))
  rw [Std.Legacy.Range.forIn_eq_forIn_range']
  simp only [Std.Legacy.Range.size, Nat.sub_zero, Nat.add_sub_cancel, Nat.div_one]
  refine wpAny_forIn_list _ (fun l q t => t = s ∧ q = (none, ()) ∧ ∃ i, l = List.range' i (ea.size - i) ∧ i ≤ ea.size) _ ?_ ?_ _ _ ⟨rfl, rfl, 0, by simp, Nat.zero_le _⟩
  · rintro x l q t ⟨rfl, rfl, i, hr, hi⟩
    have hlt : i < ea.size := by
      rcases Nat.lt_or_ge i ea.size with g | g
      · exact g
      · rw [Nat.sub_eq_zero_of_le g] at hr
        cases hr
    have e1 : ea.size - i = (ea.size - (i + 1)) + 1 := by omega
    rw [e1, List.range'_succ] at hr
    injection hr with hx hl'
    subst hx hl'
    refine wpAny_bind (wpAny_dictEntries ga da ?_)
    have hxa : x < xa.length := by omega
    have hka : x < ka.length := by rw [ra.length]; exact hxa
    obtain ⟨y, hy, k1, ⟨k2, k3⟩, k4⟩ := ra.get (List.getElem?_eq_getElem hka)
    obtain ⟨v1, v2⟩ := hp _ (List.getElem_mem hka)
    have hE : ea[x]? = some (entryOfKey (nestedKind X.prog X.w) y) := by
      rw [entry_at la, hy]
      rfl
    rw [hE]
    show wpAny _ _ (holding [(entryOfKey (nestedKind X.prog X.w) y).key, (entryOfKey (nestedKind X.prog X.w) y).val] _ >>= _) _ _ _
    have hyk : (nestedKind X.prog X.w).is t.heap ka[x].1 y.2.1 := key_is I.hok k2 k3
    refine wpAny_bind (wpAny_holding (wpAny_bind ?_))
    show wpAny _ _ (dictFind b (.ref y.2.1) ((nestedKind X.prog X.w).hash y.1)) _ _ _
    rw [← k1]
    have hfound : ∃ (j : Nat) (p : Addr × Value), xb[j]? = some (ka[x].1, p) ∧ RelV ka[x].2 p.2 := by
      obtain ⟨u, hu', ru⟩ := RelO.some_of (v := ka[x].2) (o := (atKey xb ka[x].1).map (·.2)) (by rw [← v1]; exact rb.val _)
      obtain ⟨p, hp1, hp2⟩ := Option.map_eq_some_iff.mp hu'
      unfold atKey at hp1
      obtain ⟨z, hz, ez⟩ := Option.map_eq_some_iff.mp hp1
      have hz1 := List.find?_some hz
      simp only [decide_eq_true_eq] at hz1
      obtain ⟨j, hj⟩ := List.mem_iff_getElem?.mp (List.mem_of_find?_eq_some hz)
      exact ⟨j, p, by rw [hj, ← hz1, ← ez], by rw [hp2]; exact ru⟩
    refine wpAny_dictFind_heap (knd := nestedKind X.prog X.w) (by show A.units + 8 < cLine; omega) hyk gb db lb ib nb (fun hno => ?_) (fun j p hj => ?_)
    · obtain ⟨j, p, hj, _⟩ := hfound
      exact absurd hj (hno j p)
    · obtain ⟨j', p', hj', rp⟩ := hfound
      have ej : j = j' := idxH_unique nb hj hj'
      subst ej
      rw [hj] at hj'
      cases hj'
      refine wpAny_bind (wpAny_dictEntries gb db ?_)
      rw [entry_at lb, hj]
      refine wpAny_holding (eqAt_same k4 rp v2 _ _ _ _ ?_)
      show wpAny _ _ (if (!true) = true then _ else _) _ _ _
      rw [if_neg (by decide)]
      refine wpAny_bind (wpAny_dictEpoch ga da ?_)
      rw [if_neg (by simp)]
      exact wpAny_pure ⟨rfl, rfl, x + 1, rfl, hlt⟩
  · rintro q t ⟨rfl, rfl, _⟩
    exact wpAny_pure h
def rSameN (P : Program) (w : World) (r : Bool) : R2 := fun x y H Q => ∃ a b ka kb, x = .ref a ∧ y = .ref b ∧ ND P w H a ka ∧ ND P w H b kb ∧ ka.length = kb.length ∧ (∀ p ∈ ka, valV kb p.1 = some p.2 ∧ flatB p.2 = true) ∧ Q (.bl r) H
theorem op_eqN (hu : X.A.units + 64 < cLine) : OpR X (compareOp .Eq) (rSameN X.prog X.w true) := by
  intro pins s σ H x y v u Q I rx ry h
  obtain ⟨a, b, ka, kb, rfl, rfl, ea, eb, hl, hp, q⟩ := h
  obtain rfl : v = Value.ref a := rx
  obtain rfl : u = Value.ref b := ry
  obtain ⟨ta, _, _, _⟩ := isDict_at I ea.isDict
  obtain ⟨tb, _, _, _⟩ := isDict_at I eb.isDict
  refine wpAny_richCompare_same_room (op := .Eq) ta tb PySem.F.slot_dict_eq (wpAny_call_entry PySem.F.slot_dict_eq ta PySem.F.entry_dict_eq ?_ (PySem.F.args_dict_eq_2 _ _)) (by omega)
  show wpAny _ _ (Builtin.Dict.dictSlotArgs "__eq__" ⟨[.ref a, .ref b], []⟩ >>= _) _ _ s
  refine wpAny_bind ?_
  unfold Builtin.Dict.dictSlotArgs
  refine wpAny_bind (wpAny_notOrdered_dict ta ?_)
  show wpAny _ _ (pure (Value.ref a, Value.ref b)) _ _ s
  refine wpAny_pure (wpAny_bind (wpAny_isInstance (T := "dict") tb PySem.F.sub_dict_dict ?_))
  simp only [Bool.not_true, Bool.false_eq_true, if_false]
  refine wpAny_bind (wpAny_pure (wpAny_bind (wpAny_pure (wpAny_bind (same_nd (by show X.A.units + 1 + 60 < cLine; omega) I ea eb hl hp (wpAny_pure ⟨_, rfl, ?_, ?_⟩))))))
  · exact fun z => nomatch z
  · exact ⟨.bl true, H, I, rfl, q⟩
theorem op_neN (hu : X.A.units + 64 < cLine) : OpR X (compareOp .NotEq) (rSameN X.prog X.w false) := by
  intro pins s σ H x y v u Q I rx ry h
  obtain ⟨a, b, ka, kb, rfl, rfl, ea, eb, hl, hp, q⟩ := h
  obtain rfl : v = Value.ref a := rx
  obtain rfl : u = Value.ref b := ry
  obtain ⟨ta, _, _, _⟩ := isDict_at I ea.isDict
  obtain ⟨tb, _, _, _⟩ := isDict_at I eb.isDict
  refine wpAny_richCompare_same_room (op := .NotEq) ta tb PySem.F.slot_dict_ne (wpAny_call_entry PySem.F.slot_dict_ne ta PySem.F.entry_dict_ne ?_ (PySem.F.args_dict_ne_2 _ _)) (by omega)
  show wpAny _ _ (Builtin.Dict.dictSlotArgs "__ne__" ⟨[.ref a, .ref b], []⟩ >>= _) _ _ s
  refine wpAny_bind ?_
  unfold Builtin.Dict.dictSlotArgs
  refine wpAny_bind (wpAny_notOrdered_dict ta ?_)
  show wpAny _ _ (pure (Value.ref a, Value.ref b)) _ _ s
  refine wpAny_pure (wpAny_bind (wpAny_isInstance (T := "dict") tb PySem.F.sub_dict_dict ?_))
  simp only [Bool.not_true, Bool.false_eq_true, if_false]
  refine wpAny_bind (wpAny_pure (wpAny_bind (wpAny_pure (wpAny_bind (same_nd (by show X.A.units + 1 + 60 < cLine; omega) I ea eb hl hp (wpAny_pure ⟨_, rfl, ?_, ?_⟩))))))
  · exact fun z => nomatch z
  · exact ⟨.bl false, H, I, rfl, q⟩
theorem eqNK {P : Program} {w : World} (q : X.prog = P) (z : X.w = w) (hu : X.A.units + 64 < cLine) : OpR X (compareOp .Eq) (rSameN P w true) := by
  subst q z
  exact op_eqN hu
theorem neNK {P : Program} {w : World} (q : X.prog = P) (z : X.w = w) (hu : X.A.units + 64 < cLine) : OpR X (compareOp .NotEq) (rSameN P w false) := by
  subst q z
  exact op_neN hu

/-- dict(d) of a dict whose keys hash apart: the same keys and values -/
def rDictN (P : Program) (w : World) : List V → Hp → VK → Prop := fun xs H Q => ∃ d kvs, xs = [.ref d] ∧ ND P w H d kvs ∧ (kvs.map fun p => p.1.hash w).Nodup ∧ (∀ p ∈ kvs, ∃ ks, p.1 = .tup ks) ∧ ∀ p o, H p = none → (p == sysModules) = false → IsND P w H o kvs → Q (.ref p) (L2.upd H p (raw p o))
theorem call_dictN (hu : X.A.units + 64 < cLine) : CallR X (.type "dict") (rDictN X.prog X.w) := by
  intro pins s σ H xs us Q I r h
  obtain ⟨d, kvs, rfl, hd, hh, hk, q⟩ := h
  obtain ⟨u, rfl, ru⟩ := vals1 r
  cases ru
  obtain ⟨zd, sd', xd, rd, dd⟩ := hd.dict I.hok
  obtain ⟨_, o0, e0, _⟩ := id hd
  have hnew : (s.heap.push { cls := .type "dict", data := .dict #[] }).DictOfH (nestedKind X.prog X.w) s.heap.objs.size [] := Heap.DictOfH.new s.heap
  have k0 : ∀ b o, s.heap.get? b = some o → (s.heap.push { cls := .type "dict", data := .dict #[] }).get? b = some o := fun b o e => Heap.get?_push_of_some _ e
  have I1 : Inv X pins σ H { s with heap := s.heap.push { cls := .type "dict", data := .dict #[] } } := I.kept (t' := s.toks) k0
  have dd1 : (s.heap.push { cls := .type "dict", data := .dict #[] }).DictOfH (nestedKind X.prog X.w) d xd := by
    obtain ⟨z1, z2, z3, z4, z5⟩ := hd.dict I1.hok
    obtain ⟨o, es, ep, g1, g2, g3, g4, g5, g6⟩ := dd
    exact ⟨o, es, ep, k0 _ _ g1, g2, g3, g4, ent_is I1.hok rd, g6⟩
  have hlt : d < s.heap.objs.size := by
    obtain ⟨o, es, ep, g1, _⟩ := dd
    exact Heap.lt_size g1
  refine callType_codes (Q₁ := fun obj s₁ => obj = .ref s.heap.objs.size ∧ s₁ = { s with heap := s.heap.push { cls := .type "dict", data := .dict #[] } }) PySem.F.kt_called_dict (PySem.F.kt_typeCall_dict_1 _) PySem.F.entry_dict_init (kt_code_dict_new _ ⟨rfl, rfl⟩) ?_
  rintro obj s₁ ⟨rfl, rfl⟩
  refine ⟨hnew.typeIs, PySem.F.args_dict_init_2 _ _, ?_⟩
  unfold Builtin.«dict.__init__»
  refine wpAny_bind ?_
  unfold Builtin.Dict.selfAndRest
  refine wpAny_bind (wpAny_notOrdered_dict hnew.typeIs ?_)
  show wpAny _ _ (pure (s.heap.objs.size, [Value.ref d])) _ _ _
  refine wpAny_pure ?_
  show wpAny _ _ (Builtin.Dict.updateFrom "dict.__init__" s.heap.objs.size (.ref d) [] .none) _ _ _
  have hz : xd.length ≤ sizeLine := by rw [← rd.length]; exact zd
  have hap : ((xd.map fun x => (nestedKind X.prog X.w).hash x.1)).Nodup := by
    have e : xd.map (fun x => (nestedKind X.prog X.w).hash x.1) = kvs.map fun p => p.1.hash X.w := by
      have := congrArg (List.map (fun k => NestedKey.hash X.w k)) rd.keys
      rw [List.map_map, List.map_map] at this
      exact this.symm
    rw [e]
    exact hh
  refine updateFrom_dictH (knd := nestedKind X.prog X.w) .none (by show X.A.units + 1 + 1 + 8 < cLine; omega) (Nat.ne_of_gt hlt) sd' hnew dd1 (.inr ⟨fun x hx => ?_, hap⟩) (by rw [List.length_nil, Nat.zero_add]; exact hz) fun h' hd' ho' hs' => ⟨rfl, ?_⟩
  · obtain ⟨i, hi⟩ := List.mem_iff_getElem?.mp hx
    have hl : i < kvs.length := by
      rw [rd.length]
      exact (List.getElem?_eq_some_iff.mp hi).1
    obtain ⟨y, hy, k1, ⟨k2, k3⟩, _⟩ := rd.get (List.getElem?_eq_getElem hl)
    rw [hi] at hy
    cases hy
    obtain ⟨ks, ek⟩ := hk _ (List.getElem_mem hl)
    rw [ek] at k2
    have q1 := At.isk I1.hok _ _ _ k2 (show RelV (.ref x.2.1) (.ref x.2.1) from rfl)
    cases q1 with
    | tup g1 g2 _ _ => exact ⟨_, g1, g2⟩
  · have e : storedAllH [] xd = xd := storedAllH_nil_of_nodup xd (by obtain ⟨_, _, _, _, _, _, _, _, hn⟩ := dd; exact hn)
    rw [e] at hd'
    obtain ⟨o, ho, io⟩ := isND_of (H := H) zd rd hd'
    have kp : ∀ b ob, s.heap.get? b = some ob → h'.get? b = some ob := fun b ob eb => (hs'.2 b (Nat.ne_of_lt (Heap.lt_size eb))).trans (k0 _ _ eb)
    exact ⟨.ref s.heap.objs.size, _, Inv.rawnew (s := s) (a := s.heap.objs.size) (t' := s.toks) I kp (Nat.le_refl _) ho, rfl, q _ o (I.hok.fresh (Nat.le_refl _)) (nosys I (Nat.le_refl _)) io⟩
theorem dictNK {P : Program} {w : World} (q : X.prog = P) (z : X.w = w) (hu : X.A.units + 64 < cLine) : CallR X (.type "dict") (rDictN P w) := by
  subst q z
  exact call_dictN hu
end
end Lt

/-! Lt, part E: sum of lists. -/
namespace Lt
open PySem PySem.Spec PyProof.Rows L2

abbrev LAt (h : Heap) (a : Addr) (xs : List Value) : Prop := ∃ n, h.get? a = some { cls := .type "list", data := .seq xs.toArray n }
theorem LAt.keep {h h' : Heap} {a : Addr} {xs : List Value} (x : LAt h a xs) (k : ∀ o, h.get? a = some o → h'.get? a = some o) : LAt h' a xs := let ⟨n, e⟩ := x; ⟨n, k _ e⟩
theorem LAt.isList {h : Heap} {a : Addr} {xs : List Value} (x : LAt h a xs) : h.IsList a xs.toArray := let ⟨n, e⟩ := x; ⟨_, e, rfl, n, rfl⟩
theorem LAt.lt {h : Heap} {a : Addr} {xs : List Value} (x : LAt h a xs) : a < h.objs.size := let ⟨_, e⟩ := x; Heap.lt_size e
theorem flat_take {α : Type} {src : List (List α)} {i : Nat} {x : List α} (h : src[i]? = some x) : (src.take (i + 1)).flatten = (src.take i).flatten ++ x := by
  obtain ⟨hi, e⟩ := List.getElem?_eq_some_iff.mp h
  rw [List.take_succ_eq_append_getElem hi, List.flatten_append, e]
  simp
theorem flat_le {α : Type} (src : List (List α)) (i : Nat) : (src.take i).flatten.length ≤ src.flatten.length := by
  have e : src.flatten = (src.take i).flatten ++ (src.drop i).flatten := by rw [← List.flatten_append, List.take_append_drop]
  rw [e, List.length_append]
  omega
section
variable {P : Program} {w : World} {A : Around}
theorem sum_loop {R : Result → Shared → Prop} {I l S : Addr} {its : List Value} {src : List (List Value)} (hh : A.handled = none) (hl : its.length = src.length) (hz : src.flatten.length ≤ sizeLine) (hSI : S ≠ I) (hlS : l ≠ S) (hlI : l ≠ I) :
    ∀ (k i : Nat) (s : Shared) (acc : Addr) (c : Nat), its.length - i = k → i ≤ its.length → s.heap.IsListIter I l i → s.heap.IsList l its.toArray →
      (∀ (j : Nat) (x : List Value), src[j]? = some x → ∃ b, its[j]? = some (.ref b) ∧ b ≠ S ∧ b ≠ I ∧ LAt s.heap b x) →
      s.heap.get? S = some { cls := .type "list", dict := none, data := .seq #[.ref acc] c, slots := #[] } → acc ≠ S → acc ≠ I → LAt s.heap acc (src.take i).flatten →
      (∀ h' tk p, (∀ b o, b ≠ S → b ≠ I → s.heap.get? b = some o → h'.get? b = some o) → LAt h' p src.flatten → (p = acc ∨ s.heap.objs.size ≤ p) → R (.ok (.ret (.ref p))) { s with heap := h', toks := tk }) →
      codeAny (model P w) A (.builtin "sum.loop" ⟨[.ref I, .ref S, rawInt 2, rawInt 0], []⟩) R s := by
  intro k
  induction k with
  | zero =>
    intro i s acc c hk hi hit hlist hb hS h1 h2 hacc hR
    have e : i = its.length := by omega
    subst e
    refine codeAny_builtin F.entry_sum_loop ?_
    rw [Around.under_plainId F.plain_sum_loop _]
    show wpAny _ A.in1 (seqItems? (.ref S) >>= _) _ _ s
    refine wpAny_bind (wpAny_seqItems hS rfl ?_)
    show wpAny _ A.in1 (tryCatch (pyNext (.ref I)) _ >>= _) _ _ s
    refine wpAny_bind (wpAny_tryCatch (wpAny_pyNext_list_end (A := A.in1) hh hit hlist (by simp) fun h' he => ?_))
    refine wpAny_pure (hR h' s.toks acc (fun b o _ hI e => he b o hI e) ?_ (.inl rfl))
    rw [hl, List.take_length] at hacc
    exact hacc.keep fun o e => he acc o h2 e
  | succ k ih =>
    intro i s acc c hk hi hit hlist hb hS h1 h2 hacc hR
    have hlt : i < its.length := by omega
    obtain ⟨b, hb1, hb2, hb3, hb4⟩ := hb i src[i] (List.getElem?_eq_getElem (by omega))
    refine codeAny_builtin F.entry_sum_loop ?_
    rw [Around.under_plainId F.plain_sum_loop _]
    show wpAny _ A.in1 (seqItems? (.ref S) >>= _) _ _ s
    refine wpAny_bind (wpAny_seqItems hS rfl ?_)
    show wpAny _ A.in1 (tryCatch (pyNext (.ref I)) _ >>= _) _ _ s
    refine wpAny_bind (wpAny_tryCatch (wpAny_pyNext_list_item hit hlist (x := .ref b) (by simpa using hb1) fun h1' hit1 sb1 => ?_))
    have kp1 : ∀ a o, a ≠ I → s.heap.get? a = some o → h1'.get? a = some o := fun a o hne e => (sb1.2 a hne).trans e
    obtain ⟨m1, g1⟩ := hacc.keep (h' := h1') fun o e => kp1 acc o h2 e
    obtain ⟨m2, g2⟩ := hb4.keep (h' := h1') fun o e => kp1 b o hb3 e
    have hlen : (src.take i).flatten.length + src[i].length ≤ sizeLine := by
      have := flat_le src (i + 1)
      rw [flat_take (List.getElem?_eq_getElem (by omega)), List.length_append] at this
      omega
    show wpAny _ A.in1 ((holding [Value.ref b] (binaryOp .Add (.ref acc) (.ref b))).attempt >>= _) _ _ _
    refine wpAny_bind (wpAny_attempt (wpAny_holding (PySem.P.add_list (s := { s with heap := h1' }) g1 g2 ?_ (by rw [List.size_toArray, List.size_toArray]; omega))))
    have kp2 : ∀ a o, h1'.get? a = some o → (h1'.push { cls := .type "list", data := .seq ((src.take i).flatten.toArray ++ src[i].toArray) }).get? a = some o := fun a o e => Heap.get?_push_of_some _ e
    have hS2 := kp2 _ _ (kp1 _ _ hSI hS)
    show wpAny _ A.in1 (updateSeq S (fun _ => #[Value.ref h1'.objs.size]) >>= _) _ _ _
    refine wpAny_bind (wpAny_updateSeq hS2 rfl ?_)
    have hS3 := Heap.get?_update_self (Obj.mapSeq fun _ => #[Value.ref h1'.objs.size]) hS2 rfl
    refine wpAny_bind (wpAny_letGo ?_)
    refine wpAny_bind (wpAny_updateSeq hS3 rfl ?_)
    have hS4 := Heap.get?_update_self (Obj.mapSeq fun _ => #[Value.ref h1'.objs.size]) hS3 rfl
    have hSlt : S < h1'.objs.size := Heap.lt_size (kp1 _ _ hSI hS)
    have hIlt : I < h1'.objs.size := by
      obtain ⟨o, e, _⟩ := hit1
      exact Heap.lt_size e
    have kp3 : ∀ a o, a ≠ S → h1'.get? a = some o → (((h1'.push { cls := .type "list", data := .seq ((src.take i).flatten.toArray ++ src[i].toArray) }).update S (Obj.mapSeq fun _ => #[Value.ref h1'.objs.size])).update S (Obj.mapSeq fun _ => #[Value.ref h1'.objs.size])).get? a = some o := fun a o hne e =>
      (Heap.get?_update_other _ _ (Ne.symm hne)).trans ((Heap.get?_update_other _ _ (Ne.symm hne)).trans (kp2 a o e))
    have hnew : (((h1'.push { cls := .type "list", data := .seq ((src.take i).flatten.toArray ++ src[i].toArray) }).update S (Obj.mapSeq fun _ => #[Value.ref h1'.objs.size])).update S (Obj.mapSeq fun _ => #[Value.ref h1'.objs.size])).get? h1'.objs.size = some { cls := .type "list", data := .seq ((src.take i).flatten.toArray ++ src[i].toArray) } :=
      (Heap.get?_update_other _ _ (Nat.ne_of_lt hSlt)).trans ((Heap.get?_update_other _ _ (Nat.ne_of_lt hSlt)).trans (Heap.get?_push_size _ rfl))
    refine wpAny_pure ⟨plainId_quiet F.plain_sum_loop _, ih (i + 1) _ h1'.objs.size _ (by omega) hlt (hit1.at fun o e => kp3 I o (Ne.symm hSI) e) (hlist.at fun o e => kp3 l o hlS (kp1 l o hlI e)) (fun j x hj => ?_) hS4 (Nat.ne_of_gt hSlt) (Nat.ne_of_gt hIlt) ⟨0, ?_⟩ fun h' tk p kp hp hpp => ?_⟩
    · obtain ⟨b', g1', g2', g3', g4'⟩ := hb j x hj
      exact ⟨b', g1', g2', g3', g4'.keep fun o e => kp3 b' o g2' (kp1 b' o g3' e)⟩
    · rw [hnew, flat_take (List.getElem?_eq_getElem (by omega))]
      simp
    · refine hR h' tk p (fun a o hne hne2 e => kp a o hne hne2 (kp3 a o hne (kp1 a o hne2 e))) hp (.inr ?_)
      have h0 : s.heap.objs.size ≤ h1'.objs.size := Nat.le_of_eq sb1.1.symm
      rcases hpp with q | q
      · rw [q]
        exact h0
      · exact Nat.le_trans h0 (Nat.le_trans (Nat.le_of_lt (Heap.lt_size hnew)) q)
theorem off2 {a n m : Nat} (h : a < n) (e : m = n + 1) : a ≠ n ∧ a ≠ m ∧ n ≠ m ∧ m ≠ n := by omega
theorem args_sum2 (a b : Value) : argsOk "sum" ⟨[a, b], []⟩ := by unfold argsOk; kernel_rfl
theorem call_sum_lists {E : Value → Shared → Prop} {s : Shared} {l b0 : Addr} {its : List Value} {src : List (List Value)} {Q : Value → Shared → Prop} (hh : A.handled = none) (hl : its.length = src.length) (hz : src.flatten.length ≤ sizeLine) (hL : s.heap.IsList l its.toArray) (h0 : LAt s.heap b0 [])
    (hb : ∀ (j : Nat) (x : List Value), src[j]? = some x → ∃ b, its[j]? = some (.ref b) ∧ LAt s.heap b x)
    (h : ∀ h' tk p, (∀ b o, s.heap.get? b = some o → h'.get? b = some o) → LAt h' p src.flatten → (p = b0 ∨ s.heap.objs.size ≤ p) → Q (.ref p) { s with heap := h', toks := tk }) :
    wpAny (model P w) A (call (.builtin "sum") [.ref l, .ref b0]) Q E s := by
  refine call_function_tree F.kind_sum F.plain_sum F.entry_sum (args_sum2 _ _) ?_
  unfold Builtin.«sum»
  simp only [List.length_cons, List.length_nil]
  rw [if_neg (by decide)]
  refine wpAny_bind (wpAny_of_eq (show Builtin.Builtins.bindParams "sum" ["start"] 0 ⟨[.ref b0], []⟩ = pure [some (.ref b0)] from rfl) ?_)
  refine wpAny_bind (wpAny_pyIter_list hL ?_)
  obtain ⟨n0, e0⟩ := h0
  have e0' : (s.heap.push { cls := .type "list_iterator", data := .fields #[.ref l, .int 0 0] }).get? b0 = some { cls := .type "list", data := .seq ([] : List Value).toArray n0 } := Heap.get?_push_of_some _ e0
  have ty0 : ({ s with heap := s.heap.push { cls := .type "list_iterator", data := .fields #[.ref l, .int 0 0] } } : Shared).TypeIs (.ref b0) "list" := ⟨_, e0', rfl⟩
  refine wpAny_bind (wpAny_pure ?_)
  simp only [List.forIn_cons, List.forIn_nil]
  refine wpAny_bind (wpAny_bind (wpAny_bind (wpAny_isInstance (T := "list") (b := false) ty0 (by rw [isSubtype_type]; kernel_rfl) ?_)))
  simp only [Bool.false_eq_true, if_false]
  refine wpAny_pure (wpAny_bind (wpAny_bind (wpAny_isInstance (T := "list") (b := false) ty0 (by rw [isSubtype_type]; kernel_rfl) ?_)))
  simp only [Bool.false_eq_true, if_false]
  refine wpAny_pure (wpAny_bind (wpAny_bind (wpAny_isInstance (T := "list") (b := false) ty0 (by rw [isSubtype_type]; kernel_rfl) ?_)))
  simp only [Bool.false_eq_true, if_false]
  refine wpAny_pure (wpAny_pure ?_)
  refine wpAny_bind (wpAny_newObj_type ?_ (by show 1 ≤ sizeLine; rw [sizeLine_eq]; decide))
  have kp : ∀ b o, s.heap.get? b = some o → ((s.heap.push { cls := .type "list_iterator", data := .fields #[.ref l, .int 0 0] }).push { cls := .type "list", data := .seq #[.ref b0] }).get? b = some o := fun b o e => Heap.get?_push_of_some _ (Heap.get?_push_of_some _ e)
  have hlt : l < s.heap.objs.size := by
    obtain ⟨o, e, _⟩ := hL
    exact Heap.lt_size e
  have hblt : b0 < s.heap.objs.size := Heap.lt_size e0
  have esz : (s.heap.push { cls := .type "list_iterator", data := .fields #[.ref l, .int 0 0] }).objs.size = s.heap.objs.size + 1 := Heap.size_push ..
  refine wpAny_pure ⟨plainId_quiet F.plain_sum_loop _, sum_loop (its := its) (src := src) hh hl hz (l := l) (S := (s.heap.push { cls := .type "list_iterator", data := .fields #[.ref l, .int 0 0] }).objs.size) (I := s.heap.objs.size)
    (off2 hlt esz).2.2.2 (off2 hlt esz).2.1 (off2 hlt esz).1 _ 0 _ b0 0 rfl (Nat.zero_le _) (Heap.IsListIter.at (h := s.heap.push { cls := .type "list_iterator", data := .fields #[.ref l, .int 0 0] }) ⟨_, Heap.get?_push_size _ rfl, rfl, rfl⟩ fun o e => Heap.get?_push_of_some _ e) (hL.at fun o e => kp l o e)
    (fun j x hj => ?_) (Heap.get?_push_size _ rfl) (off2 hblt esz).2.1 (off2 hblt esz).1 ⟨n0, kp _ _ e0⟩ fun h' tk p k hp hpp => ?_⟩
  · obtain ⟨b, e1, e2⟩ := hb j x hj
    have hlb := e2.lt
    exact ⟨b, e1, (off2 hlb esz).2.1, (off2 hlb esz).1, e2.keep fun o e => kp b o e⟩
  · refine h h' tk p (fun b o e => ?_) hp ?_
    · have hlb := Heap.lt_size e
      exact k b o (off2 hlb esz).2.1 (off2 hlb esz).1 (kp b o e)
    · rcases hpp with q | q
      · exact .inl q
      · refine .inr (Nat.le_trans ?_ q)
        show s.heap.objs.size ≤ ((s.heap.push { cls := .type "list_iterator", data := .fields #[.ref l, .int 0 0] }).push { cls := .type "list", data := .seq #[.ref b0] }).objs.size
        rw [Heap.size_push, esz]
        omega
end
section
variable {X : Cx} {K : PySem.W.Frag}
/-- sum(xss, []): one after the other -/
def rSumL (K : PySem.W.Frag) : List V → Hp → VK → Prop := fun vs H Q => ∃ (a b0 : Addr) (bs : List Addr) (xss : List (List V)), vs = [.ref a, .ref b0] ∧ SqL K H a (bs.map V.ref) ∧ H b0 = some (.lst []) ∧ Paired (fun b xs => H b = some (.lst xs)) bs xss ∧ xss.flatten.length ≤ sizeLine ∧
  ∀ p H', Le H H' → H' p = some (.lst xss.flatten) → Q (.ref p) H'
theorem lists_of {pins : List (Addr × Obj)} {σ : L2.St} {H : Hp} {s : Shared} (I : Inv X pins σ H s) : ∀ {bs : List Addr} {xss : List (List V)}, Paired (fun b xs => H b = some (.lst xs)) bs xss →
    ∃ src : List (List Value), src.length = bs.length ∧ Vals xss.flatten src.flatten ∧ ∀ (j : Nat) (x : List Value), src[j]? = some x → ∃ b, bs[j]? = some b ∧ LAt s.heap b x
  | _, _, .nil => ⟨[], rfl, .nil, fun j x e => by simp at e⟩
  | _, _, .cons (a := b) (b := xs) h t => by
    obtain ⟨src, h1, h2, h3⟩ := lists_of I t
    obtain ⟨z, its, n, r, hl, e⟩ := I.lstM h
    refine ⟨its :: src, by rw [List.length_cons, List.length_cons, h1], by rw [List.flatten_cons, List.flatten_cons]; exact r.append h2, fun j x e' => ?_⟩
    cases j with
    | zero =>
      simp at e'
      subst e'
      exact ⟨b, rfl, n, e⟩
    | succ j =>
      obtain ⟨b', g1, g2⟩ := h3 j x (by simpa using e')
      exact ⟨b', by simpa using g1, g2⟩
theorem call_sumL (hc : X.calm = true) : CallR X (.builtin "sum") (rSumL X.K) := by
  intro pins s σ H xs us Q I r h
  obtain ⟨a, b0, bs, xss, rfl, hq, h0, hp, hz, q⟩ := h
  obtain ⟨u1, u2, rfl, r1, r2⟩ := vals2 r
  cases r1
  cases r2
  obtain ⟨its, rv, pl, hz1⟩ := I.list hq
  have ei := refs_at rv
  subst ei
  obtain ⟨src, s1, s2, s3⟩ := lists_of I hp
  obtain ⟨z, its0, n0, r0, hl0, e0⟩ := I.lstM h0
  cases r0
  have e1 := s2.length
  refine call_sum_lists (src := src) (I.ok.hd hc) (by rw [List.length_map, s1]) (by rw [← e1]; exact hz) pl.isList ⟨n0, e0⟩ (fun j x hj => ?_) fun h' tk p kp hpl hpp => ?_
  · obtain ⟨b, g1, g2⟩ := s3 j x hj
    exact ⟨b, by rw [List.getElem?_map, g1]; rfl, g2⟩
  · have I1 : Inv X pins σ H { s with heap := h', toks := tk } := I.kept kp
    rcases hpp with g | g
    · subst g
      refine ⟨.ref p, H, I1, rfl, q p H (.refl H) ?_⟩
      obtain ⟨n, e⟩ := hpl
      have e3 := kp _ _ e0
      rw [e] at e3
      injection e3 with e3
      injection e3 with _ _ e3 _
      injection e3 with e3 _
      have e4 : src.flatten = [] := by simpa using congrArg Array.toList e3
      rw [e4] at s2
      cases hx : xss.flatten with
      | nil => exact h0
      | cons x r =>
        rw [hx] at s2
        cases s2
    · obtain ⟨n, e⟩ := hpl
      have hn := I.hok.fresh g
      exact ⟨.ref p, L2.upd H p (.lst xss.flatten), I.laid kp g ⟨hz, src.flatten, n, s2, e⟩, rfl, q p _ (.new hn) upd_same⟩
theorem sumLK (e : X.K = K) (hc : X.calm = true) : CallR X (.builtin "sum") (rSumL K) := e ▸ call_sumL hc
end
end Lt

/-! Lt, part F: stars; comprehensions of lists; keys of numbers. -/
namespace Lt
open PySem PySem.Spec PyProof.Rows L2

section
variable {X : Cx} {K : PySem.W.Frag} {e : Expr} {es : List Expr} {te : TE} {t : TA} {p : Pos}
theorem pa_starK (q : X.K = K) (he : PE X e te) (hr : PA X es t) (hs : starEach (.Starred e p :: es) X.env = (true, eval e X.env) :: starEach es X.env := by rfl) : PA X (.Starred e p :: es) (StX.tStar K te t) := q ▸ StX.pa_star he hr hs
end
theorem paired_keep {H H' : Hp} {bs : List Addr} {xss : List (List V)} (k : ∀ b xs, b ∈ bs → H b = some (.lst xs) → H' b = some (.lst xs)) (r : Paired (fun b xs => H b = some (.lst xs)) bs xss) : Paired (fun b xs => H' b = some (.lst xs)) bs xss := by
  induction r with
  | nil => exact .nil
  | cons h t ih => exact .cons (k _ _ (by simp) h) (ih fun b xs hb => k b xs (by simp [hb]))
/-- a comprehension whose items are new lists: each told by its contents -/
theorem lc_lists {J : It} {n : Nat} {G : Hp → Prop} {Y : Nat → Hp → V → Hp → Prop} (wk : Walk J n G Y) {g : TG} {tt : TT} {te : TE} {vs : List Nat} {σ : L2.St} {H1 : Hp} {D' : Addr} {Qd : Hp → Prop} (hD : H1 D' = none) (hn : n ≤ 100000)
    (R : Nat → Hp → List V → Prop) (hT : ∀ i H H' xs, R i H xs → Tups H H' → R i H' xs)
    (hG : ∀ H', Le H1 H' → G H')
    (hs : ∀ i x H' H'', i < n → Le H1 H' → Y i H' x H'' → ∀ (Yk : V → Hp → Prop) (Nk : Hp → Prop), (∀ b xs H4, Le H' H4 → H' D' ≠ none → b ≠ D' → H4 b = some (.lst xs) → R i H4 xs → Yk (.ref b) H4) →
      H' D' ≠ none → g x (wipe σ vs) H'' fun σ2 H2 => wipe σ2 vs = wipe σ vs ∧ tt σ2 H2 fun b H3 => if b = true then te σ2 H3 Yk else Nk H3)
    (hd : ∀ H' bs (xss : List (List V)), Le H1 H' → H' D' = some (.lst (bs.map V.ref)) → xss.length = n → Paired (fun b xs => H' b = some (.lst xs)) bs xss → (∀ i xs, xss[i]? = some xs → R i H' xs) → Qd H') :
    ∃ W : Nat → Nat → Hp → Prop, (∃ m, W 0 m (L2.upd H1 D' (.lst []))) ∧ ∀ i m H, W i m H →
      (J.stop i H ∧ Qd H) ∨ (J.go i H ∧ ∃ Nx : Hp → Prop, (∀ H', Nx H' → ∃ m', m' < m ∧ W (i + 1) m' H') ∧ ∀ x H', J.yld i H x H' → g x (wipe σ vs) H' fun σ2 H2 => wipe σ2 vs = wipe σ vs ∧ tt σ2 H2 fun b H3 =>
        if b = true then te σ2 H3 fun y H4 => ∃ acc, H4 D' = some (.lst acc) ∧ acc.length < sizeLine ∧ Nx (L2.upd H4 D' (.lst (acc ++ [y]))) else Nx H3) := by
  refine lc_it wk (fun i H' => Le H1 H' ∧ ∃ bs, ∃ xss : List (List V), H' D' = some (.lst (bs.map V.ref)) ∧ xss.length = i ∧ (∀ b ∈ bs, b ≠ D') ∧ Paired (fun b xs => H' b = some (.lst xs)) bs xss ∧ ∀ j xs, xss[j]? = some xs → R j H' xs)
    ⟨.new hD, [], [], upd_same, rfl, (fun _ h => nomatch h), .nil, (fun j xs h => by simp at h)⟩ (fun i H' _ h => hG H' h.1) (fun i x H' H'' hi h hy => ?_) (fun H' h => ?_)
  · obtain ⟨l, bs, xss, hx, hl, hne, hp, hr⟩ := h
    have hb := hp.length
    refine hs i x H' H'' hi l hy _ _ (fun b xs H4 l4 _ hbD hb4 hR4 => ?_) (by rw [hx]; exact fun h => nomatch h)
    have tp : Tups H4 (L2.upd H4 D' (.lst (bs.map V.ref ++ [.ref b]))) := tups_upd (l4.lst hx) (fun _ z => nomatch z)
    refine ⟨bs.map V.ref, l4.lst hx, ?_, (l.trans l4).mut hD, bs ++ [b], xss ++ [xs], by rw [upd_same, List.map_append]; rfl, by rw [List.length_append, hl]; rfl, fun b' hb' => ?_, ?_, fun j ys hj => ?_⟩
    · rw [List.length_map]
      exact Nat.lt_of_le_of_lt (by omega : bs.length ≤ 100000) (by rw [sizeLine_eq]; decide)
    · rcases List.mem_append.mp hb' with h | h
      · exact hne b' h
      · rw [List.mem_singleton.mp h]
        exact hbD
    · refine Paired.snoc (paired_keep (fun b' xs' hm e => ?_) hp) ?_
      · rw [upd_ne (hne b' hm)]
        exact l4.lst e
      · show L2.upd H4 D' _ b = _
        rw [upd_ne hbD]
        exact hb4
    · by_cases e : j < xss.length
      · rw [List.getElem?_append_left e] at hj
        exact hT _ _ _ _ (hT _ _ _ _ (hr j ys hj) l4.tups) tp
      · rw [List.getElem?_append_right (by omega)] at hj
        have ej : j - xss.length = 0 := by
          have := (List.getElem?_eq_some_iff.mp hj).1
          simp at this
          omega
        rw [ej] at hj
        simp at hj
        subst hj
        have : j = i := by omega
        subst this
        exact hT _ _ _ _ hR4 tp
  · obtain ⟨l, bs, xss, hx, hl, hne, hp, hr⟩ := h
    exact hd H' bs xss l hx hl hp hr
section
variable {X : Cx} {K : PySem.W.Frag}
theorem catTK (e : X.K = K) : OpR X (binaryOp .Add) (rCatT K) := e ▸ op_catT
end
/-! ### the hash of numbers -/
def hashN (p : List Int) : Int := reduceHash (Builtin.Tuple.tupleHashOf (p.map hashInt))
theorem hashes_nums (w : World) : ∀ p : List Int, NestedKey.hashes w (p.map .num) = p.map hashInt
  | [] => by rw [List.map_nil, NestedKey.hashes]; rfl
  | x :: p => by rw [List.map_cons, NestedKey.hashes, NestedKey.hash, hashes_nums w p]; rfl
theorem hash_nums (w : World) (p : List Int) : (NestedKey.tup (p.map .num)).hash w = hashN p := by
  rw [NestedKey.hash, hashes_nums]
  rfl
end Lt

/-! Lt, part G: itertools.permutations of a range. -/
namespace Lt
open PySem PySem.Spec PyProof.Rows L2

abbrev PM : String := "itertools.permutations"
theorem pm_mro : mroOf (.type PM) = pure [.type PM, .type "object"] := by rw [mroOf_type]; kernel_rfl
theorem pm_lookup_new : typeLookup (.type PM) "__new__" = pure (some (.builtin "itertools.permutations.__new__")) := by rw [typeLookup_type, builtinLookup_eq_fast]; kernel_rfl
theorem pm_sub : isSubtype (.type PM) (.type PM) = pure true := by rw [isSubtype_type]; kernel_rfl
theorem pm_slot_init : Slot PM "__init__" "object.__init__" :=
  .of (owner := "object") (n := "__init__") (by rw [typeLookup_type, builtinLookup_eq_fast]; kernel_rfl) (by decide +kernel) (by decide +kernel) (by decide +kernel) (by first | exact .inl (by decide +kernel) | exact .inr (by decide +kernel)) (by rw [isSubtype_type]; kernel_rfl)
theorem pm_called : TypeCalled PM "itertools.permutations.__new__" "object.__init__" := ⟨by decide +kernel, by decide +kernel, ⟨_, _, pm_mro⟩, madeBy_type pm_mro pm_lookup_new (by decide +kernel), by decide +kernel, pm_sub, pm_slot_init⟩
theorem pm_typeCall (a b : Value) : checkTypeCall PM ⟨[a, b], []⟩ = pure () := by kernel_rfl
theorem pm_newCall (a b : Value) : checkBuiltinCall "itertools.permutations.__new__" ⟨[.type PM, a, b], []⟩ = pure () := by kernel_rfl
theorem pm_entry_new : entryFor table "itertools.permutations.__new__" = some Builtin.«itertools.permutations.__new__» := entryFor_of_tree (by kernel_rfl)
theorem pm_entry_next : entryFor table "itertools.permutations.__next__" = some Builtin.«itertools.permutations.__next__» := entryFor_of_tree (by kernel_rfl)
theorem pm_slot_iter : Slot PM "__iter__" "itertools.permutations.__iter__" :=
  .of (owner := PM) (n := "__iter__") (by rw [typeLookup_type, builtinLookup_eq_fast]; kernel_rfl) (by decide +kernel) (by decide +kernel) (by decide +kernel) (by first | exact .inl (by decide +kernel) | exact .inr (by decide +kernel)) pm_sub
theorem pm_slot_next : Slot PM "__next__" "itertools.permutations.__next__" :=
  .of (owner := PM) (n := "__next__") (by rw [typeLookup_type, builtinLookup_eq_fast]; kernel_rfl) (by decide +kernel) (by decide +kernel) (by decide +kernel) (by first | exact .inl (by decide +kernel) | exact .inr (by decide +kernel)) pm_sub
theorem pm_entry_iter : entryFor table "itertools.permutations.__iter__" = some Builtin.«dict_keyiterator.__iter__» :=
  entryFor_alias (id' := "dict_keyiterator.__iter__") (by kernel_rfl) (by first | rfl | decide +kernel | (unfold String.splitOn; simp +decide [String.splitOnAux])) (by decide +kernel) (by kernel_rfl)
theorem pm_noDict : typeHasDict (.type PM) = false := by decide +kernel
theorem pm_owner : Manifest.owners.lookup (String.ofList ['s', 'n', 'o', 'i', 't', 'a', 't', 'u', 'm', 'r', 'e', 'p', '.', 's', 'l', 'o', 'o', 't', 'r', 'e', 't', 'i'].reverse) = some Manifest.sig_itertools_permutations := by kernel_rfl
theorem pm_args_iter (a : Value) : argsOk "itertools.permutations.__iter__" ⟨[a], []⟩ := by
  unfold argsOk; rw [signature?_of (id := "itertools.permutations.__iter__") (n := ['_', '_', 'r', 'e', 't', 'i', '_', '_']) (o := ['s', 'n', 'o', 'i', 't', 'a', 't', 'u', 'm', 'r', 'e', 'p', '.', 's', 'l', 'o', 'o', 't', 'r', 'e', 't', 'i']) (by kernel_rfl) pm_owner]; kernel_rfl
theorem pm_args_next (a : Value) : argsOk "itertools.permutations.__next__" ⟨[a], []⟩ := by
  unfold argsOk; rw [signature?_of (id := "itertools.permutations.__next__") (n := ['_', '_', 't', 'x', 'e', 'n', '_', '_']) (o := ['s', 'n', 'o', 'i', 't', 'a', 't', 'u', 'm', 'r', 'e', 'p', '.', 's', 'l', 'o', 'o', 't', 'r', 'e', 't', 'i']) (by kernel_rfl) pm_owner]; kernel_rfl
end Lt

namespace Lt
open PySem PySem.Spec PyProof.Rows L2
/-- the record of a permutations object -/
def pmObj (tp : Addr) (stage r : Int) (before : Value) (ns : List Nat) : Obj := { cls := .type PM, dict := none, data := .fields ([Value.ref tp, rawInt stage, rawInt r, before] ++ ns.map fun n : Nat => rawInt n).toArray, slots := #[] }
def pmFirst (n r : Nat) : List Nat := List.range n ++ (List.range r).map fun i => n - i
theorem pm_class (x y : Value) : Builtin.Itertools.itClassAndRest "permutations" ⟨[.type PM, x, y], []⟩ = pure (.type PM, [x, y]) := by
  unfold Builtin.Itertools.itClassAndRest
  have h1 : isType (.type PM) = pure true := rfl
  have h2 : isSubtype (.type PM) (.type ("itertools." ++ "permutations")) = pure true := pm_sub
  dsimp only
  rw [h1, h2]
  rfl
theorem pm_bind (x y : Value) : Builtin.Itertools.itBindNamed "permutations" ["iterable", "r"] 1 2 [x, y] [] = pure [some x, some y] := by rfl
section
variable {prog : Program} {w : World} {A : Around} {E : Value → Shared → Prop} {s : Shared} {r : Addr} {a b c : Int} {t u v : Tok} {n : Nat}
theorem pm_code_new {Q₁ : Value → Shared → Prop} {k : Nat} {tk0 : Tok} (hh : A.handled = none) (hr : IsRange s.heap r a b c t u v) (hsmall : Builtin.Range.small a b c = true) (hn : Builtin.Range.rangeSize a b c = n) (hlen : n ≤ 1000) (hk : k ≤ n)
    (h : ∀ (h' : Heap) (tk : Nat) (acc : Array Value), (∀ b o, s.heap.get? b = some o → h'.get? b = some o) → ItemsOf (fun i v => ∃ t, v = .int (a + i * c) t) acc n →
      Q₁ (.ref (h'.objs.size + 1)) { s with heap := (h'.push { cls := .type "tuple", data := .seq acc }).push (pmObj h'.objs.size 0 k .none (pmFirst n k)), toks := tk }) :
    codeAny (model prog w) A (.call (.builtin "itertools.permutations.__new__") ⟨[.type PM, .ref r, .int k tk0], []⟩) (wants Q₁ E) s := by
  refine codeAny_of_tree ?_
  show wpAny _ A.in1 (do checkBuiltinCall "itertools.permutations.__new__" ⟨[.type PM, .ref r, .int k tk0], []⟩; again (.builtin "itertools.permutations.__new__" ⟨[.type PM, .ref r, .int k tk0], []⟩)) _ _ s
  refine wpAny_bind (wpAny_of_eq (pm_newCall _ _) (wpAny_pure ⟨Code.quiet_builtin _ (by decide +kernel), codeAny_builtin pm_entry_new ?_⟩))
  rw [Around.under_plainId (by decide +kernel) _]
  have hsub := pm_sub
  have hTI : s.TypeIs (.ref r) "range" := ⟨_, hr, rfl⟩
  have hh1 : A.in1.handled = none := hh
  have hd := pm_noDict
  show wpAny _ _ (Builtin.Itertools.itClassAndRest "permutations" _ >>= _) _ _ _
  refine wpAny_bind (wpAny_of_eq (pm_class _ _) ?_)
  show wpAny _ _ (Builtin.Itertools.itBindNamed "permutations" _ _ _ _ _ >>= _) _ _ _
  refine wpAny_bind (wpAny_of_eq (pm_bind _ _) ?_)
  show wpAny _ _ (collect _ >>= _) _ _ _
  refine wpAny_bind (collect_range (A := A.in1) hh1 hr hsmall hn (by omega) fun h' tk acc hkp hacc => ?_)
  have hlen' : acc.toList.length = n := by rw [Array.length_toList]; exact hacc.1
  show wpAny _ _ (holding acc.toList _ >>= _) _ _ _
  refine wpAny_bind (wpAny_holding ?_)
  show wpAny _ _ (if (decide ((k : Int) < -2 ^ 63) || decide ((k : Int) ≥ 2 ^ 63)) = true then _ else _) _ _ _
  rw [if_neg (by simp; omega)]
  refine wpAny_pure ?_
  show wpAny _ _ (if (k : Int) < 0 then _ else _) _ _ _
  rw [if_neg (by omega)]
  show wpAny _ _ (if Builtin.Itertools.itTooMany (k : Int) = true then _ else _) _ _ _
  rw [if_neg (by unfold Builtin.Itertools.itTooMany; simp; omega)]
  show wpAny _ _ (newTuple acc.toList >>= _) _ _ _
  refine wpAny_bind (wpAny_newTuple ?_)
  have e1 : acc.toList.toArray = acc := by simp
  have ef : ([Value.ref h'.objs.size, rawInt (if (k : Int).toNat > acc.toList.length then 2 else 0), rawInt ((k : Int).toNat : Nat), Value.none] ++ List.map (fun i : Nat => rawInt (i : Int)) (List.range acc.toList.length) ++ List.map (fun i : Nat => rawInt ((acc.toList.length : Int) - (i : Int))) (List.range (k : Int).toNat)).toArray =
      ([Value.ref h'.objs.size, rawInt 0, rawInt (k : Int), Value.none] ++ (pmFirst n k).map fun n : Nat => rawInt n).toArray := by
    rw [hlen', Int.toNat_natCast, if_neg (by omega), List.append_assoc]
    congr 2
    unfold pmFirst
    rw [List.map_append, List.map_map]
    congr 1
    refine List.map_congr_left fun i hi => ?_
    have := List.mem_range.mp hi
    show rawInt _ = rawInt ((n - i : Nat) : Int)
    rw [Int.ofNat_sub (by omega)]
  show wpAny _ _ (Builtin.Itertools.itNewRecord _ _ >>= _) _ _ _
  refine wpAny_bind ?_
  unfold Builtin.Itertools.itNewRecord
  rw [hd]
  rw [if_pos (by rfl)]
  refine wpAny_newObj_type ?_ ?_
  · refine wpAny_pure ?_
    have q := h h' tk acc hkp hacc
    rw [← e1] at q
    unfold pmObj at q
    rw [← ef, e1] at q
    rw [e1]
    have e2 : (h'.push { cls := .type "tuple", data := .seq acc }).objs.size = h'.objs.size + 1 := by
      show (h'.objs.push _).size = _
      rw [Array.size_push]
    show Q₁ (.ref (h'.push { cls := .type "tuple", data := .seq acc }).objs.size) _
    rw [e2]
    exact q
  · show Array.size _ ≤ _
    rw [List.size_toArray, hlen', Int.toNat_natCast, List.length_append, List.length_append, List.length_map, List.length_map, List.length_range, List.length_range, sizeLine_eq]
    show 4 + n + k ≤ _
    omega
theorem pm_call {Q : Value → Shared → Prop} {k : Nat} {tk0 : Tok} (hh : A.handled = none) (hr : IsRange s.heap r a b c t u v) (hsmall : Builtin.Range.small a b c = true) (hn : Builtin.Range.rangeSize a b c = n) (hlen : n ≤ 1000) (hk : k ≤ n)
    (h : ∀ (h' : Heap) (tk : Nat) (acc : Array Value), (∀ b o, s.heap.get? b = some o → h'.get? b = some o) → ItemsOf (fun i v => ∃ t, v = .int (a + i * c) t) acc n →
      Q (.ref (h'.objs.size + 1)) { s with heap := (h'.push { cls := .type "tuple", data := .seq acc }).push (pmObj h'.objs.size 0 k .none (pmFirst n k)), toks := tk }) :
    wpAny (model prog w) A (call (.type PM) [.ref r, .int k tk0]) Q E s := by
  refine callType_codes (Q₁ := fun obj s₁ => s₁.TypeIs obj PM ∧ Q obj s₁) pm_called (pm_typeCall _ _) F.entry_object_init
    (pm_code_new (A := A.in1) hh hr hsmall hn hlen hk fun h' tk acc hkp hacc => ⟨?_, h h' tk acc hkp hacc⟩) fun obj s₁ h₁ => ?_
  · have e2 : (h'.push { cls := .type "tuple", data := .seq acc }).objs.size = h'.objs.size + 1 := by
      show (h'.objs.push _).size = _
      rw [Array.size_push]
    have q : ((h'.push { cls := .type "tuple", data := .seq acc }).push (pmObj h'.objs.size 0 k .none (pmFirst n k))).get? (h'.objs.size + 1) = some (pmObj h'.objs.size 0 k .none (pmFirst n k)) := by
      rw [← e2]
      exact Heap.get?_push_size _ rfl
    exact ⟨_, q, rfl⟩
  · exact ⟨h₁.1, F.args_object_init_3 obj _ _, object_init_meets pm_called.init.lookup pm_called.made (by decide) prog w A.in1 _ s₁ ⟨h₁.1, rfl, h₁.2⟩⟩
theorem pm_iter {it tp : Addr} {stage r : Int} {bf : Value} {ns : List Nat} {Q : Value → Shared → Prop} (hit : s.heap.get? it = some (pmObj tp stage r bf ns)) (h : Q (.ref it) s) : wpAny (model prog w) A (pyIter (.ref it)) Q E s := by
  have hT : s.TypeIs (.ref it) PM := ⟨_, hit, rfl⟩
  refine wpAny_pyIter_slot hT pm_slot_iter (wpAny_call_entry pm_slot_iter hT pm_entry_iter ?_ (pm_args_iter _))
  show wpAny _ _ (ret (.ref it)) _ _ s
  exact wpAny_pure ⟨_, rfl, PM, _, hT, pm_slot_next.lookup, h⟩
/-- the next arrangement -/
def nextP (n : Nat) : (place : Nat) → (indices cycles : List Nat) → Option (List Nat × List Nat)
  | 0, _, _ => none
  | i + 1, ix, cy =>
    if (cy.getD i 0 - 1 == 0) = true then nextP n i (ix.take i ++ ix.drop (i + 1) ++ [ix.getD i 0]) (cy.set i (n - i))
    else some ((ix.set i (ix.getD (n - (cy.getD i 0 - 1)) 0)).set (n - (cy.getD i 0 - 1)) (ix.getD i 0), cy.set i (cy.getD i 0 - 1))
theorem nextP_is (f : Nat → Nat → List Nat → List Nat → Option (List Nat × List Nat)) (h0 : ∀ n a b, f n 0 a b = none)
    (hs : ∀ n i a b, f n (i + 1) a b = if (b.getD i 0 - 1 == 0) = true then f n i (a.take i ++ a.drop (i + 1) ++ [a.getD i 0]) (b.set i (n - i)) else some ((a.set i (a.getD (n - (b.getD i 0 - 1)) 0)).set (n - (b.getD i 0 - 1)) (a.getD i 0), b.set i (b.getD i 0 - 1))) :
    ∀ n r a b, f n r a b = nextP n r a b
  | n, 0, a, b => h0 n a b
  | n, i + 1, a, b => by
    rw [hs, nextP, nextP_is f h0 hs n i]
theorem pm_nums {tp : Addr} {stage r : Int} {bf : Value} (ns : List Nat) : ((([Value.ref tp, rawInt stage, rawInt r, bf] ++ ns.map fun n : Nat => rawInt n).toArray).toList.drop 4).map (fun | .int n _ => n.toNat | _ => 0) = ns := by
  show List.map _ (ns.map fun n : Nat => rawInt n) = ns
  rw [List.map_map]
  have : ((fun v : Value => match v with | .int n _ => n.toNat | _ => 0) ∘ fun n : Nat => rawInt n) = id := by
    funext n
    rfl
  rw [this, List.map_id]
def pmItems (items : Array Value) (r : Nat) (ix : List Nat) : List Value := (ix.take r).map fun i => items.getD i .none
/-- the item is handed out -/
theorem pm_hand {it tp : Addr} {r : Nat} {bf : Value} {ns ix : List Nat} {items : Array Value} {A1 : Around} {E1 : Value → Shared → Prop} {R : PySem.Fin → Shared → Prop} (hit : s.heap.get? it = some (pmObj tp 1 r bf ns)) (hz : ix.length ≤ 1000)
    (h : ∀ h' T, h'.get? it = some (pmObj tp 1 r (.ref T) ns) → s.heap.objs.size ≤ T → h'.get? T = some { cls := .type "tuple", data := .seq (pmItems items r ix).toArray } → (∀ b o, b ≠ it → s.heap.get? b = some o → h'.get? b = some o) → R (.done (.ret (.ref T))) { s with heap := h' }) :
    wpAny (model prog w) A1 (do
        let t ← newTuple (List.map (fun i => items.getD i Value.none) (List.take r ix))
        let before ← field (Value.ref it) 3
        setField (Value.ref it) 3 t
        letGo [before] [t]
        ret t) R E1 s := by
  refine wpAny_bind (wpAny_newTuple ?_)
  have hl : it ≠ s.heap.objs.size := Nat.ne_of_lt (Heap.lt_size hit)
  have hit1 : (s.heap.push { cls := .type "tuple", data := .seq (pmItems items r ix).toArray }).get? it = some (pmObj tp 1 r bf ns) := Heap.get?_push_of_some _ hit
  refine wpAny_bind (wpAny_field hit1 rfl (x := bf) rfl ?_)
  refine wpAny_bind (wpAny_setField hit1 rfl ?_ ?_)
  · show 3 < Array.size _
    rw [List.size_toArray, List.length_append]
    show 3 < 4 + _
    omega
  show wpAny _ _ (letGo [bf] [.ref s.heap.objs.size] >>= _) _ _ _
  refine wpAny_bind ?_
  unfold letGo
  refine wpAny_bind (wpAny_holding (wpAny_point ?_))
  unfold letGo
  refine wpAny_pure (wpAny_pure ?_)
  refine h _ _ ((Heap.get?_update_self _ hit1 rfl).trans (congrArg some ?_)) (Nat.le_refl _) ?_ (fun b o hb e => ?_)
  · unfold pmObj Obj.mapFields
    simp
  · rw [Heap.get?_update_other _ _ hl]
    exact Heap.get?_push_size _ rfl
  · rw [Heap.get?_update_other _ _ (Ne.symm hb)]
    exact Heap.get?_push_of_some _ e
theorem pm_next0 {it tp : Addr} {r : Nat} {bf : Value} {ns : List Nat} {items : Array Value} {o : Obj} {m : Nat} {Q : Option Value → Shared → Prop} (hit : s.heap.get? it = some (pmObj tp 0 r bf ns)) (htp : s.heap.get? tp = some o) (hd : o.data = .seq items m) (hz : ns.length ≤ 1000)
    (h : ∀ h' T, h'.get? it = some (pmObj tp 1 r (.ref T) ns) → s.heap.objs.size ≤ T → h'.get? T = some { cls := .type "tuple", data := .seq (pmItems items r ns).toArray } → (∀ b o, b ≠ it → s.heap.get? b = some o → h'.get? b = some o) → Q (some (.ref T)) { s with heap := h' }) : wpAny (model prog w) A (pyNext (.ref it)) Q E s := by
  have hT : s.TypeIs (.ref it) PM := ⟨_, hit, rfl⟩
  unfold pyNext
  refine wpAny_bind (wpAny_attempt (wpAny_callSpecial?_slot (name := Str.ofString "__next__") hT pm_slot_next (wpAny_call_entry pm_slot_next hT pm_entry_next ?_ (pm_args_next _))))
  show wpAny _ _ (field (.ref it) 0 >>= _) _ _ s
  refine wpAny_bind (wpAny_field hit rfl (x := .ref tp) rfl ?_)
  show wpAny _ _ (Builtin.Itertools.itPoolItems (.ref tp) >>= _) _ _ s
  refine wpAny_bind ?_
  show wpAny _ _ (seqItems? (.ref tp) >>= _) _ _ s
  refine wpAny_bind (wpAny_seqItems htp hd (wpAny_pure ?_))
  show wpAny _ _ (Builtin.Itertools.itIntField (.ref it) 2 >>= _) _ _ s
  refine wpAny_bind (wpAny_bind (wpAny_field hit rfl (x := rawInt r) rfl (wpAny_pure ?_)))
  show wpAny _ _ (Builtin.Itertools.itNumbersFrom (.ref it) 4 >>= _) _ _ s
  refine wpAny_bind (wpAny_bind (wpAny_load hit (wpAny_pure ?_)))
  generalize hnum : List.map _ (List.drop 4 (([Value.ref tp, rawInt _, rawInt r, bf] ++ ns.map fun n : Nat => rawInt n).toArray.toList)) = nums
  obtain rfl : ns = nums := (pm_nums (tp := tp) (stage := 0) (r := r) (bf := bf) ns).symm.trans hnum
  show wpAny _ _ (Builtin.Itertools.itIntField (.ref it) 1 >>= _) _ _ s
  refine wpAny_bind (wpAny_bind (wpAny_field hit rfl (x := rawInt 0) rfl (wpAny_pure ?_)))
  show wpAny _ _ (setField (.ref it) 1 (rawInt 1) >>= _) _ _ s
  refine wpAny_bind (wpAny_setField hit rfl ?_ ?_)
  · show 1 < Array.size _
    rw [List.size_toArray, List.length_append]
    show 1 < 4 + _
    omega
  have hit1 : (s.heap.update it (Obj.mapFields (·.setIfInBounds 1 (rawInt 1)))).get? it = some (pmObj tp 1 r bf ns) := by
    refine (Heap.get?_update_self _ hit rfl).trans (congrArg some ?_)
    unfold pmObj Obj.mapFields
    simp
  rw [Int.toNat_natCast]
  refine pm_hand (s := { s with heap := s.heap.update it (Obj.mapFields (·.setIfInBounds 1 (rawInt 1))) }) hit1 hz fun h' T e1 e2 e3 e4 => ⟨_, rfl, wpAny_pure ?_⟩
  refine h h' T e1 ?_ e3 fun b o hb e => e4 b o hb ?_
  · rw [show ({ s with heap := s.heap.update it (Obj.mapFields (·.setIfInBounds 1 (rawInt 1))) } : Shared).heap.objs.size = s.heap.objs.size from Heap.size_after_update _ _ _] at e2
    exact e2
  · show (s.heap.update it _).get? b = _
    rw [Heap.get?_update_other _ _ (Ne.symm hb)]
    exact e
theorem pm_next1 {it tp : Addr} {r n : Nat} {bf : Value} {ns ix cy : List Nat} {items : Array Value} {o : Obj} {m : Nat} {Q : Option Value → Shared → Prop} (hit : s.heap.get? it = some (pmObj tp 1 r bf ns)) (htp : s.heap.get? tp = some o) (hd : o.data = .seq items m) (hn : items.size = n)
    (hx : nextP n r (ns.take n) (ns.drop n) = some (ix, cy)) (hz : ix.length + cy.length ≤ 1000)
    (h : ∀ h' T, h'.get? it = some (pmObj tp 1 r (.ref T) (ix ++ cy)) → s.heap.objs.size ≤ T → h'.get? T = some { cls := .type "tuple", data := .seq (pmItems items r ix).toArray } → (∀ b o, b ≠ it → s.heap.get? b = some o → h'.get? b = some o) → Q (some (.ref T)) { s with heap := h' }) : wpAny (model prog w) A (pyNext (.ref it)) Q E s := by
  have hT : s.TypeIs (.ref it) PM := ⟨_, hit, rfl⟩
  unfold pyNext
  refine wpAny_bind (wpAny_attempt (wpAny_callSpecial?_slot (name := Str.ofString "__next__") hT pm_slot_next (wpAny_call_entry pm_slot_next hT pm_entry_next ?_ (pm_args_next _))))
  show wpAny _ _ (field (.ref it) 0 >>= _) _ _ s
  refine wpAny_bind (wpAny_field hit rfl (x := .ref tp) rfl ?_)
  show wpAny _ _ (Builtin.Itertools.itPoolItems (.ref tp) >>= _) _ _ s
  refine wpAny_bind ?_
  show wpAny _ _ (seqItems? (.ref tp) >>= _) _ _ s
  refine wpAny_bind (wpAny_seqItems htp hd (wpAny_pure ?_))
  show wpAny _ _ (Builtin.Itertools.itIntField (.ref it) 2 >>= _) _ _ s
  refine wpAny_bind (wpAny_bind (wpAny_field hit rfl (x := rawInt r) rfl (wpAny_pure ?_)))
  show wpAny _ _ (Builtin.Itertools.itNumbersFrom (.ref it) 4 >>= _) _ _ s
  refine wpAny_bind (wpAny_bind (wpAny_load hit (wpAny_pure ?_)))
  generalize hnum : List.map _ (List.drop 4 (([Value.ref tp, rawInt _, rawInt r, bf] ++ ns.map fun n : Nat => rawInt n).toArray.toList)) = nums
  obtain rfl : ns = nums := (pm_nums (tp := tp) (stage := 1) (r := r) (bf := bf) ns).symm.trans hnum
  show wpAny _ _ (Builtin.Itertools.itIntField (.ref it) 1 >>= _) _ _ s
  refine wpAny_bind (wpAny_bind (wpAny_field hit rfl (x := rawInt 1) rfl (wpAny_pure ?_)))
  rw [Int.toNat_natCast, hn]
  split
  · rename_i z
    exact absurd z (by decide)
  · split
    · rename_i ix' cy' hq
      have hq := (nextP_is _ (fun _ _ _ => rfl) (fun _ _ _ _ => rfl) _ _ _ _).symm.trans hq
      rw [hx] at hq
      cases hq
      refine wpAny_bind ?_
      unfold Builtin.Itertools.itSetNumbersFrom
      refine wpAny_updateFields hit rfl ?_ ?_
      · have hit1 : (s.heap.update it (Obj.mapFields fun fs => fs.extract 0 4 ++ ((ix ++ cy).map fun n : Nat => rawInt n).toArray)).get? it = some (pmObj tp 1 r bf (ix ++ cy)) := by
          refine (Heap.get?_update_self _ hit rfl).trans (congrArg some ?_)
          unfold pmObj Obj.mapFields
          simp
        refine pm_hand (s := { s with heap := s.heap.update it (Obj.mapFields fun fs => fs.extract 0 4 ++ ((ix ++ cy).map fun n : Nat => rawInt n).toArray) }) hit1 (by omega) fun h' T e1 e2 e3 e4 => ⟨_, rfl, wpAny_pure ?_⟩
        refine h h' T e1 ?_ e3 fun b o hb e => e4 b o hb ?_
        · rw [show ({ s with heap := s.heap.update it (Obj.mapFields fun fs => fs.extract 0 4 ++ ((ix ++ cy).map fun n : Nat => rawInt n).toArray) } : Shared).heap.objs.size = s.heap.objs.size from Heap.size_after_update _ _ _] at e2
          exact e2
        · show (s.heap.update it _).get? b = _
          rw [Heap.get?_update_other _ _ (Ne.symm hb)]
          exact e
      · have e9 : (ix ++ cy).length = ix.length + cy.length := List.length_append
        rw [sizeLine_eq, Array.size_append, Array.size_extract, List.size_toArray, List.size_toArray, List.length_map]
        omega
    · rename_i hq
      have hq := (nextP_is _ (fun _ _ _ => rfl) (fun _ _ _ _ => rfl) _ _ _ _).symm.trans hq
      rw [hx] at hq
      cases hq
  · rename_i z1 z2
    exact absurd rfl z2
theorem pm_next2 {it tp : Addr} {r n : Nat} {bf : Value} {ns : List Nat} {items : Array Value} {o : Obj} {m : Nat} {Q : Option Value → Shared → Prop} (hh : A.handled = none) (hit : s.heap.get? it = some (pmObj tp 1 r bf ns)) (htp : s.heap.get? tp = some o) (hd : o.data = .seq items m) (hn : items.size = n)
    (hx : nextP n r (ns.take n) (ns.drop n) = none)
    (h : ∀ h', Heap.ExtBut it s.heap h' → Q none { s with heap := h' }) : wpAny (model prog w) A (pyNext (.ref it)) Q E s := by
  have hT : s.TypeIs (.ref it) PM := ⟨_, hit, rfl⟩
  unfold pyNext
  refine wpAny_bind (wpAny_attempt (wpAny_callSpecial?_slot (name := Str.ofString "__next__") hT pm_slot_next (wpAny_call_entry pm_slot_next hT pm_entry_next ?_ (pm_args_next _))))
  show wpAny _ _ (field (.ref it) 0 >>= _) _ _ s
  refine wpAny_bind (wpAny_field hit rfl (x := .ref tp) rfl ?_)
  show wpAny _ _ (Builtin.Itertools.itPoolItems (.ref tp) >>= _) _ _ s
  refine wpAny_bind ?_
  show wpAny _ _ (seqItems? (.ref tp) >>= _) _ _ s
  refine wpAny_bind (wpAny_seqItems htp hd (wpAny_pure ?_))
  show wpAny _ _ (Builtin.Itertools.itIntField (.ref it) 2 >>= _) _ _ s
  refine wpAny_bind (wpAny_bind (wpAny_field hit rfl (x := rawInt r) rfl (wpAny_pure ?_)))
  show wpAny _ _ (Builtin.Itertools.itNumbersFrom (.ref it) 4 >>= _) _ _ s
  refine wpAny_bind (wpAny_bind (wpAny_load hit (wpAny_pure ?_)))
  generalize hnum : List.map _ (List.drop 4 (([Value.ref tp, rawInt _, rawInt r, bf] ++ ns.map fun n : Nat => rawInt n).toArray.toList)) = nums
  obtain rfl : ns = nums := (pm_nums (tp := tp) (stage := 1) (r := r) (bf := bf) ns).symm.trans hnum
  show wpAny _ _ (Builtin.Itertools.itIntField (.ref it) 1 >>= _) _ _ s
  refine wpAny_bind (wpAny_bind (wpAny_field hit rfl (x := rawInt 1) rfl (wpAny_pure ?_)))
  rw [Int.toNat_natCast, hn]
  split
  · rename_i z
    exact absurd z (by decide)
  · split
    · rename_i ix' cy' hq
      have hq := (nextP_is _ (fun _ _ _ => rfl) (fun _ _ _ _ => rfl) _ _ _ _).symm.trans hq
      rw [hx] at hq
      cases hq
    · refine wpAny_bind (wpAny_setField hit rfl ?_ ?_)
      · show 1 < Array.size _
        rw [List.size_toArray, List.length_append]
        show 1 < 4 + _
        omega
      show wpAny _ _ (Builtin.Itertools.itStop) _ _ _
      unfold Builtin.Itertools.itStop
      refine wpAny_bind ?_; simp only [newExc, newTuple]
      refine wpAny_bind (wpAny_newObj_type ?_ (by size_fits)); refine wpAny_bind (m := firstArgMember _ _) (wpAny_of_eq (a := Value.none) (by first | rfl | (simp only [firstArgMember]; rfl)) ?_)
      refine wpAny_newObj_type ?_ (by size_fits); simp only [raiseNew]; refine wpAny_bind (wpAny_handled ?_)
      first | rw [show A.in1.handled = none from hh] | rw [hh]
      refine wpAny_bind (wpAny_pure (wpAny_throw ?_)); refine wpAny_bind (wpAny_isInstance (T := "StopIteration") (b := true) ⟨_, Heap.get?_push_size _ rfl, rfl⟩ isSubtype_stop ?_)
      refine wpAny_pure (h _ ?_)
      exact (((Heap.SameBut.update ..).extBut).push _).push _
  · rename_i z1 z2
    exact absurd rfl z2
end
/-! ### the walk -/
/-- the course of the arrangements -/
structure PmRun (n k : Nat) (st : List (List Nat × List Nat)) : Prop where
  first : ∃ r, st = (List.range n, (List.range k).map fun i => n - i) :: r
  next : ∀ j p, st[j]? = some p → nextP n k p.1 p.2 = st[j + 1]?
  ok : ∀ p ∈ st, p.1.length = n ∧ p.2.length = k ∧ ∀ x ∈ p.1, x < n
def pmList (a : Int) (k : Nat) (st : List (List Nat × List Nat)) : List (List Int) := st.map fun p => (p.1.take k).map fun i : Nat => a + (i : Int)
def Itp (L : List (List Int)) : It := ⟨fun i _ => i < L.length, fun i H x H' => ∃ T l, x = .ref T ∧ H T = none ∧ H' = L2.upd H T (.tup (l.map .int)) ∧ L[i]? = some l, fun i _ => L.length ≤ i⟩
theorem walk_p {L : List (List Int)} : Walk (Itp L) L.length (fun _ => True) (fun i H x H' => ∃ T l, x = .ref T ∧ H T = none ∧ H' = L2.upd H T (.tup (l.map .int)) ∧ L[i]? = some l) :=
  ⟨fun _ _ hi _ => hi, fun _ _ => Nat.le_refl _, fun _ _ _ _ _ _ y => y⟩
def stn (st : List (List Nat × List Nat)) (j : Nat) : List Nat := match st[j]? with
  | some p => p.1 ++ p.2
  | none => []
theorem pm_vals {a : Int} {n : Nat} {acc : Array Value} (hacc : ItemsOf (fun i v => ∃ t, v = .int (a + i * 1) t) acc n) : ∀ {ix : List Nat}, (∀ x ∈ ix, x < n) → Vals (ix.map fun i : Nat => V.int (a + (i : Int))) (ix.map fun i => acc.getD i .none)
  | [], _ => .nil
  | x :: ix, h => by
    refine .cons ?_ (pm_vals hacc fun y hy => h y (by simp [hy]))
    have hx : x < acc.size := by rw [hacc.1]; exact h x (by simp)
    obtain ⟨t, e⟩ := hacc.2 x acc[x] (Array.getElem?_eq_getElem hx)
    show L2.RelV (V.int (a + (x : Int))) (acc.getD x .none)
    rw [Array.getD_eq_getD_getElem?, Array.getElem?_eq_getElem hx]
    exact ⟨t, by rw [Option.getD_some, e, Int.mul_one]⟩
theorem turn_p {P : Program} {w : World} {K : PySem.W.Frag} {tg : Expr} {a : Int} {n k : Nat} {st : List (List Nat × List Nat)} {acc : Array Value} {m : Nat} {tp it : Addr} (R : PmRun n k st) (hk : k ≤ n) (hn : n ≤ 400)
    (hacc : ItemsOf (fun i v => ∃ t, v = .int (a + i * 1) t) acc n) (hne : tp ≠ it) :
    Turn P w K tg (Itp (pmList a k st)) [it, tp] it (fun i h => h.get? tp = some { cls := .type "tuple", data := .seq acc m } ∧ i ≤ st.length ∧ ∃ bf, h.get? it = some (pmObj tp (if i = 0 then 0 else 1) k bf (stn st (i - 1)))) where
  mem := by simp
  obj := fun i h s b hb => by
    obtain ⟨e1, _, bf, e2⟩ := s
    have e' : b = it ∨ b = tp := by simpa using hb
    rcases e' with z | z
    · rw [z]; exact ⟨_, e2, fun v q => nomatch q⟩
    · rw [z]; exact ⟨_, e1, fun v q => nomatch q⟩
  keep := fun i h h' s kp => let ⟨e1, ei, bf, e2⟩ := s; ⟨kp tp (by simp) _ e1, ei, bf, kp it (by simp) _ e2⟩
  item := by
    intro X hP hw hK hc i pins s σ H E I hf s0 hg
    subst hP hw hK
    obtain ⟨e1, ei, bf, e2⟩ := s0
    have hi : i < st.length := by
      have : i < (pmList a k st).length := hg
      unfold pmList at this
      rw [List.length_map] at this
      exact this
    obtain ⟨o1, o2, o3⟩ := R.ok st[i] (List.getElem_mem hi)
    have hil : it < s.heap.objs.size := Heap.lt_size e2
    have htl : tp < s.heap.objs.size := Heap.lt_size e1
    have fin : ∀ (h' : Heap) (T : Addr), h'.get? it = some (pmObj tp 1 k (.ref T) (stn st i)) → s.heap.objs.size ≤ T → h'.get? T = some { cls := .type "tuple", data := .seq (pmItems acc k st[i].1).toArray } → (∀ b o, b ≠ it → s.heap.get? b = some o → h'.get? b = some o) →
        ∃ u, some (Value.ref T) = some u ∧ wpAny (model X.prog X.w) X.A (letOwnedTupleGo tg (.ref it) u) (fun _ s2 => ∃ x H', Inv X pins σ H' s2 ∧ RelV x u ∧ (Itp (pmList a k st)).yld i H x H' ∧ (s2.heap.get? tp = some { cls := .type "tuple", data := .seq acc m } ∧ i + 1 ≤ st.length ∧ ∃ bf, s2.heap.get? it = some (pmObj tp (if i + 1 = 0 then 0 else 1) k bf (stn st (i + 1 - 1)))) ∧ ∀ b ∈ [it, tp], H' b = none) E { s with heap := h' } := by
      intro h' T f1 f2 f3 f4
      refine ⟨_, rfl, go_of f1 rfl rfl (by decide) ?_⟩
      have hx : ∀ x ∈ st[i].1.take k, x < n := fun x hx => o3 x (List.mem_of_mem_take hx)
      have new : ObjOk X.prog X.w (L2.upd H T (.tup (((st[i].1.take k).map fun i : Nat => a + (i : Int)).map V.int))) h' T (.tup (((st[i].1.take k).map fun i : Nat => a + (i : Int)).map V.int)) := by
        refine ⟨?_, pmItems acc k st[i].1, ?_, ⟨_, f3, rfl, _, rfl⟩⟩
        · rw [List.length_map, List.length_map, List.length_take, sizeLine_eq]
          omega
        · rw [List.map_map]
          exact pm_vals hacc hx
      have I1 : Inv X pins σ (L2.upd H T (.tup (((st[i].1.take k).map fun i : Nat => a + (i : Int)).map V.int))) { s with heap := h' } :=
        I.turnedNew (t' := s.toks) (ch := [it]) (fun b ob hb q => f4 b ob (fun z => hb (by simp [z])) q) (fun b hb => hf b (by simp at hb; simp [hb])) f2 new
      refine ⟨.ref T, _, I1, rfl, ⟨T, _, rfl, I.hok.fresh f2, rfl, ?_⟩, ⟨f4 tp _ hne e1, hi, _, f1⟩, fun b hb => ?_⟩
      · unfold pmList
        rw [List.getElem?_map, List.getElem?_eq_getElem hi]
        rfl
      · have e' : b = it ∨ b = tp := by simpa using hb
        have hbT : b ≠ T := by rcases e' with z | z <;> (rw [z]; exact Nat.ne_of_lt (Nat.lt_of_lt_of_le (by assumption) f2))
        rw [upd_ne hbT]
        exact (hf b hb).1
    cases i with
    | zero =>
      obtain ⟨r, er⟩ := R.first
      have e0 : stn st (0 - 1) = pmFirst n k := by
        unfold stn
        rw [er]
        rfl
      have e0' : stn st 0 = pmFirst n k := e0
      rw [e0] at e2
      have es : st[0].1 = List.range n := by simp [er]
      refine pm_next0 e2 e1 rfl ?_ fun h' T f1 f2 f3 f4 => fin h' T (by rw [e0']; exact f1) f2 ?_ f4
      · unfold pmFirst
        rw [List.length_append, List.length_map, List.length_range, List.length_range]
        omega
      · rw [f3, es]
        unfold pmItems pmFirst
        rw [List.take_append_of_le_length (by rw [List.length_range]; exact hk)]
    | succ i =>
      have hi' : i < st.length := by omega
      obtain ⟨q1, q2, q3⟩ := R.ok st[i] (List.getElem_mem hi')
      have es : stn st (i + 1 - 1) = st[i].1 ++ st[i].2 := by
        show stn st i = _
        unfold stn
        rw [List.getElem?_eq_getElem hi']
      have es' : stn st (i + 1) = st[i + 1].1 ++ st[i + 1].2 := by
        unfold stn
        rw [List.getElem?_eq_getElem hi]
      rw [es] at e2
      have hx := R.next i st[i] (List.getElem?_eq_getElem hi')
      rw [List.getElem?_eq_getElem hi] at hx
      refine pm_next1 (ix := st[i + 1].1) (cy := st[i + 1].2) e2 e1 rfl hacc.1 ?_ (by omega) fun h' T f1 f2 f3 f4 => fin h' T (by rw [es']; exact f1) f2 f3 f4
      rw [List.take_left' q1, List.drop_left' q1]
      exact hx
  done := by
    intro X hP hw hK hc i pins s σ H E I hf s0 hg
    subst hP hw hK
    obtain ⟨e1, ei, bf, e2⟩ := s0
    have hi : st.length ≤ i := by
      have : (pmList a k st).length ≤ i := hg
      unfold pmList at this
      rw [List.length_map] at this
      exact this
    obtain ⟨r, er⟩ := R.first
    obtain ⟨j, rfl⟩ : ∃ j, i = j + 1 := ⟨i - 1, by rw [er] at hi; simp at hi; omega⟩
    have hj : j < st.length := by omega
    obtain ⟨q1, q2, q3⟩ := R.ok st[j] (List.getElem_mem hj)
    have es : stn st (j + 1 - 1) = st[j].1 ++ st[j].2 := by
      show stn st j = _
      unfold stn
      rw [List.getElem?_eq_getElem hj]
    rw [es] at e2
    have hx := R.next j st[j] (List.getElem?_eq_getElem hj)
    rw [List.getElem?_eq_none hi] at hx
    obtain ⟨f0, f1, f2, f3, f4, f5⟩ := hf it (by simp)
    exact pm_next2 (I.ok.hd hc) e2 e1 rfl hacc.1 (by rw [List.take_left' q1, List.drop_left' q1]; exact hx) fun h' eb => ⟨rfl, I.turned (t' := s.toks) (fun b o hb q => eb b o hb q) f0 f1 f3 f4 f5⟩
  self := fun A i s Q E st h => let ⟨_, _, _, e⟩ := st; pm_iter e h
/-! ### permutations(range(a, b), k) -/
def iPerm (ta tb tk : TE) : TI := fun σ H R => ta σ H fun x H1 => tb σ H1 fun y H2 => ∃ (a b : Int), x = .int a ∧ y = .int b ∧ RgOk a b ∧ tk σ H2 fun z H3 => ∃ (k : Nat) (st : List (List Nat × List Nat)), z = .int k ∧ (b - a).toNat ≤ 400 ∧ k ≤ (b - a).toNat ∧ PmRun (b - a).toNat k st ∧ R (Itp (pmList a k st)) H3
theorem Inv.pinned {X : Cx} {pins : List (Addr × Obj)} {σ : L2.St} {H : Hp} {s : Shared} {o : Obj} {t' : Nat} (I : Inv X pins σ H s) (hd : ∀ v, o.data ≠ .cell v) (hf : o.isFreed = false) :
    Inv X ((s.heap.objs.size, o) :: pins) σ H { s with heap := s.heap.push o, toks := t' } := by
  have J : Inv X pins σ H { s with heap := s.heap.push o, toks := t' } := I.kept fun b ob e => Heap.get?_push_of_some _ e
  refine { J with pin := fun p hp => ?_ }
  rcases List.mem_append.mp hp with h | h
  · exact J.pin p (List.mem_append_left _ h)
  · rcases List.mem_cons.mp h with h | h
    · rw [h]
      exact ⟨Heap.get?_push_size _ hf, I.hok.fresh (Nat.le_refl _), Nat.ne_of_gt I.lt, I.nofs (Nat.le_refl _), hd⟩
    · exact J.pin p (List.mem_append_right _ h)
theorem Inv.unpinned {X : Cx} {pins : List (Addr × Obj)} {p : Addr × Obj} {σ : L2.St} {H : Hp} {s : Shared} (I : Inv X (p :: pins) σ H s) : Inv X pins σ H s :=
  { I with pin := fun q hq => I.pin q (by
      rcases List.mem_append.mp hq with h | h
      · exact List.mem_append_left _ h
      · exact List.mem_append_right _ (List.mem_cons_of_mem _ h)) }
theorem pi_perm {X : Cx} {tg e1 e2 e3 : Expr} {ta tb tk : TE} {p p2 pos pos2 : Pos} (hc : X.calm = true) (hg : Gl X "permutations") (hm : X.mg "permutations" = some (.type PM)) (hg2 : Gl X "range") (hm2 : X.mg "range" = none) (ha : PE X e1 ta) (hb : PE X e2 tb) (hk : PE X e3 tk)
    (n1 : starEach [e1, e2] X.env = (false, eval e1 X.env) :: starEach [e2] X.env := by rfl) (n2 : starEach [e2] X.env = (false, eval e2 X.env) :: starEach [] X.env := by rfl) (n3 : (backTo pos2 (starEach [e2] X.env)).any (·.1) = false := by rfl)
    (n4 : starEach [.Call (.Name "range" p2) [e1, e2] [] pos2, e3] X.env = (false, eval (.Call (.Name "range" p2) [e1, e2] [] pos2) X.env) :: starEach [e3] X.env := by rfl) (n5 : starEach [e3] X.env = (false, eval e3 X.env) :: starEach [] X.env := by rfl) (n6 : (backTo pos (starEach [e3] X.env)).any (·.1) = false := by rfl) :
    PI X tg (.Call (.Name "permutations" p) [.Call (.Name "range" p2) [e1, e2] [] pos2, e3] [] pos) (iPerm ta tb tk) := by
  refine ⟨fun pins s σ H R I h => ?_⟩
  refine Call_ (ld_glob I hg hm (callWith_type1 (args_cons ?_ n4) n4 n6))
  refine Call_ (ld_blt I hg2 hm2 boot_range (callWith_type1 (args_cons (thn (ha.run pins s σ H _ I h) fun v s1 ⟨x, H1, I1, r1, q1⟩ => args_cons (thn (hb.run pins s1 σ H1 _ I1 q1) fun u s2 ⟨y, H2, I2, r2, q2⟩ => args_nil ?_) n2) n1) n1 n3))
  obtain ⟨a, b, rfl, rfl, ⟨b1, b2, b3, b4, b5⟩, q3⟩ := q2
  obtain ⟨t, rfl⟩ := r1
  obtain ⟨t', rfl⟩ := r2
  refine call_range_2 ?_
  have Ip := Inv.pinned (t' := s2.toks + 1) (o := { cls := .type "range", data := .fields #[.int a t, .int b t', .int 1 s2.toks] }) I2 (fun v q => nomatch q) rfl
  refine args_cons (thn (hk.run _ _ σ H2 _ Ip q3) fun u s3 ⟨z, H3, I3, r3, k, st, ez, hl, hkn, hrun, q⟩ => args_nil ?_) n5
  subst ez
  obtain ⟨t3, rfl⟩ := r3
  obtain ⟨hr, _⟩ := I3.pin (s2.heap.objs.size, _) (List.mem_append_right _ (List.mem_cons_self ..))
  have I4 : Inv X pins σ H3 s3 := Inv.unpinned I3
  refine pm_call (n := (b - a).toNat) (I4.ok.hd hc) hr (small_one b1 b2 b3 b4) (rangeSize_nat a b) (by omega) hkn fun h' tk acc hkp hacc => ?_
  have e2 : (h'.push { cls := .type "tuple", data := .seq acc }).objs.size = h'.objs.size + 1 := Heap.size_push _ _
  have g1 : ((h'.push { cls := .type "tuple", data := .seq acc }).push (pmObj h'.objs.size 0 k .none (pmFirst (b - a).toNat k))).get? (h'.objs.size + 1) = some (pmObj h'.objs.size 0 k .none (pmFirst (b - a).toNat k)) := by
    rw [← e2]
    exact Heap.get?_push_size _ rfl
  refine pm_iter g1 ?_
  have I5 : Inv X pins σ H3 { s3 with heap := (h'.push { cls := .type "tuple", data := .seq acc }).push (pmObj h'.objs.size 0 k .none (pmFirst (b - a).toNat k)), toks := tk } :=
    I4.kept fun c o e => Heap.get?_push_of_some _ (Heap.get?_push_of_some _ (hkp c o e))
  have I6 : Inv X pins σ H3 { s3 with heap := h', toks := tk } := I4.kept hkp
  refine ⟨h'.objs.size + 1, [h'.objs.size + 1, h'.objs.size], _, _, H3, rfl, I5, turn_p (m := 0) (acc := acc) (tp := h'.objs.size) (it := h'.objs.size + 1) hrun hkn hl hacc (Nat.ne_of_lt (Nat.lt_succ_self _)), ⟨Heap.get?_push_of_some _ (Heap.get?_push_size _ rfl), Nat.zero_le _, .none, ?_⟩, fun c hcm => ?_, q⟩
  · obtain ⟨r, er⟩ := hrun.first
    have e0 : stn st (0 - 1) = pmFirst (b - a).toNat k := by
      unfold stn
      rw [er]
      rfl
    rw [e0]
    exact g1
  · have hle : h'.objs.size ≤ c := by
      have e' : c = h'.objs.size + 1 ∨ c = h'.objs.size := by simpa using hcm
      rcases e' with z | z
      · rw [z]; exact Nat.le_succ _
      · rw [z]; exact Nat.le_refl _
    exact I6.fpOk hle (I6.hok.fresh hle)
end Lt

/-! Lt, part I: a comprehension of data over two clauses; what is never reached. -/
namespace Lt
open PySem PySem.Spec PyProof.Rows L2

/-- the inner loop of a comprehension of two clauses -/
def Inner2 (g1 : TG) (tt1 : TT) (te : TE) (vs1 : List Nat) (D : Addr) (Nx : Hp → Prop) (σ2 : L2.St) (J1 : It) (H4 : Hp) : Prop := ∃ W1 : Nat → Nat → Hp → Prop, (∃ m, W1 0 m H4) ∧ ∀ j k H, W1 j k H →
  (J1.stop j H ∧ Nx H) ∨ (J1.go j H ∧ ∃ Nx1 : Hp → Prop, (∀ H', Nx1 H' → ∃ k', k' < k ∧ W1 (j + 1) k' H') ∧ ∀ x H', J1.yld j H x H' → g1 x (wipe σ2 vs1) H' fun σ3 H5 => wipe σ3 vs1 = wipe σ2 vs1 ∧ tt1 σ3 H5 fun b H6 =>
    if b = true then te σ3 H6 fun y H7 => ∃ acc, H7 D = some (.lst acc) ∧ acc.length < sizeLine ∧ Nx1 (L2.upd H7 D (.lst (acc ++ [y]))) else Nx1 H6)
def LoopC2 (J : It) (g : TG) (tt : TT) (wi1 : TI) (g1 : TG) (tt1 : TT) (te : TE) (vs vs1 : List Nat) (σ : L2.St) (H1 : Hp) (D : Addr) (Q : VK) : Prop := ∃ W : Nat → Nat → Hp → Prop, (∃ m, W 0 m (L2.upd H1 D (.lst []))) ∧ ∀ i m H, W i m H →
  (J.stop i H ∧ Q (.ref D) H) ∨ (J.go i H ∧ ∃ Nx : Hp → Prop, (∀ H', Nx H' → ∃ m', m' < m ∧ W (i + 1) m' H') ∧ ∀ x H', J.yld i H x H' → g x (wipe σ vs) H' fun σ2 H2 => wipe σ2 vs = wipe σ vs ∧ tt σ2 H2 fun b H3 =>
    if b = true then wi1 σ2 H3 fun J1 H4 => Inner2 g1 tt1 te vs1 D Nx σ2 J1 H4 else Nx H3)
theorem lc2_eq {wi : TI} {g : TG} {tt : TT} {wi1 : TI} {g1 : TG} {tt1 : TT} {te : TE} {vs vs1 : List Nat} {σ : L2.St} {H : Hp} {Q : VK} : tLc2 wi g tt wi1 g1 tt1 te vs vs1 σ H Q = wi σ H fun J H1 => ∀ D, H1 D = none → LoopC2 J g tt wi1 g1 tt1 te vs vs1 σ H1 D Q := rfl
theorem flat_small {α : Type} {F : Nat → List α} {n i : Nat} (hi : i ≤ n) : (((List.range i).map F).flatten).length ≤ (((List.range n).map F).flatten).length := by
  obtain ⟨k, rfl⟩ : ∃ k, n = i + k := ⟨n - i, by omega⟩
  rw [List.range_add, List.map_append, List.flatten_append, List.length_append]
  omega
/-- the heap without one */ -/
def del (H : Hp) (a : Addr) : Hp := fun b => if b = a then none else H b
theorem del_self {H : Hp} {a : Addr} : del H a a = none := if_pos rfl
theorem del_ne {H : Hp} {a b : Addr} {o : HO} (h : b ≠ a) (e : H b = some o) : del H a b = some o := (if_neg h).trans e
theorem del_le (H : Hp) (a : Addr) : Le (del H a) H := by
  refine ⟨fun b o e _ => ?_, fun b ps e => ⟨ps, ?_, id⟩⟩ <;>
  · unfold del at e
    split at e
    · cases e
    · exact e
theorem lc2_data {J : It} {n : Nat} {G : Hp → Prop} {Y : Nat → Hp → V → Hp → Prop} (wk : Walk J n G Y) {g : TG} {tt : TT} {wi1 : TI} {g1 : TG} {tt1 : TT} {te : TE} {vs vs1 : List Nat} {σ : L2.St} {H1 : Hp} {D' : Addr} {Q : VK} (hD : H1 D' = none) (F : Nat → List D)
    (hn : (((List.range n).map F).flatten).length ≤ 100000) (hG : ∀ H', Le H1 H' → G H')
    (hs : ∀ i x H' H'', i < n → Le H1 H' → Y i H' x H'' → ∀ (In : L2.St → It → Hp → Prop) (Nk : Hp → Prop),
      (∀ (σ2 : L2.St) (J1 : It) (H4 : Hp) (n1 : Nat) (G1 : Hp → Prop) (Y1 : Nat → Hp → V → Hp → Prop) (F1 : Nat → Option D), Walk J1 n1 G1 Y1 → Le H' H4 → (List.range n1).filterMap F1 = F i → (∀ H5, Le H1 H5 → Le (del H4 D') H5 → G1 H5) →
        (∀ j y H5 H6, j < n1 → Le H1 H5 → Le (del H4 D') H5 → Y1 j H5 y H6 → ∀ (Yk : V → Hp → Prop) (Nk1 : Hp → Prop), (∀ z H7 d, Le H5 H7 → F1 j = some d → At H7 d z → Yk z H7) → (∀ H7, Le H5 H7 → F1 j = none → Nk1 H7) →
          g1 y (wipe σ2 vs1) H6 fun σ3 H7 => wipe σ3 vs1 = wipe σ2 vs1 ∧ tt1 σ3 H7 fun b H8 => if b = true then te σ3 H8 Yk else Nk1 H8) → In σ2 J1 H4) →
      (∀ H4, Le H' H4 → F i = [] → Nk H4) →
      g x (wipe σ vs) H'' fun σ2 H2 => wipe σ2 vs = wipe σ vs ∧ tt σ2 H2 fun b H3 => if b = true then wi1 σ2 H3 fun J1 H4 => In σ2 J1 H4 else Nk H3)
    (hd : ∀ H' xs, Le H1 H' → H' D' = some (.lst xs) → Ats H' (((List.range n).map F).flatten) xs → Q (.ref D') H') : LoopC2 J g tt wi1 g1 tt1 te vs vs1 σ H1 D' Q := by
  let P : List D → Hp → Prop := fun ds H' => Le H1 H' ∧ ∃ xs, H' D' = some (.lst xs) ∧ Ats H' ds xs
  refine ⟨fun i m H => m = n - i ∧ i ≤ n ∧ P (((List.range i).map F).flatten) H, ⟨n, by simp, Nat.zero_le _, .new hD, [], upd_same, Ats.nil⟩, ?_⟩
  rintro i m H ⟨rfl, hi, l, xs, hx, ha⟩
  by_cases hlt : i < n
  · refine .inr ⟨wk.goes i H hlt (hG H l), P (((List.range (i + 1)).map F).flatten), fun H' p' => ⟨n - (i + 1), by omega, rfl, hlt, p'⟩, fun x H' y => ?_⟩
    have eF : ((List.range (i + 1)).map F).flatten = ((List.range i).map F).flatten ++ F i := by
      rw [List.range_succ, List.map_append, List.flatten_append]
      simp
    refine hs i x H H' hlt l (wk.yields i H x H' hlt (hG H l) y) _ _ (fun σ2 J1 H4 n1 G1 Y1 F1 wk1 l4 hF hG1 hs1 => ?_) (fun H4 l4 hF => ?_)
    · refine ⟨fun j k H5 => k = n1 - j ∧ j ≤ n1 ∧ Le (del H4 D') H5 ∧ P (((List.range i).map F).flatten ++ (List.range j).filterMap F1) H5, ⟨n1, by simp, Nat.zero_le _, del_le _ _, l.trans l4, xs, l4.lst hx, ?_⟩, ?_⟩
      · simpa using ha.le l4
      rintro j k H5 ⟨rfl, hj, l5, l5', ys, hy, hb⟩
      by_cases hjl : j < n1
      · refine .inr ⟨wk1.goes j H5 hjl (hG1 H5 l5' l5), fun H6 => Le (del H4 D') H6 ∧ P (((List.range i).map F).flatten ++ (List.range (j + 1)).filterMap F1) H6, fun H6 p6 => ⟨n1 - (j + 1), by omega, rfl, hjl, p6⟩, fun z H6 yz => ?_⟩
        refine hs1 j z H5 H6 hjl l5' l5 (wk1.yields j H5 z H6 hjl (hG1 H5 l5' l5) yz) _ _ (fun v H7 d l7 hFj hv => ?_) (fun H7 l7 hFj => ?_)
        · have hyl : ys.length ≤ 100000 := by
            rw [hb.length, List.length_append]
            have a1 : ((List.range j).filterMap F1).length ≤ (F i).length := by
              rw [← hF]
              obtain ⟨q, rfl⟩ : ∃ q, n1 = j + q := ⟨n1 - j, by omega⟩
              rw [List.range_add, List.filterMap_append, List.length_append]
              omega
            have a2 := flat_small (F := F) (n := n) (i := i + 1) hlt
            rw [eF, List.length_append] at a2
            omega
          have tp : Tups H7 (L2.upd H7 D' (.lst (ys ++ [v]))) := tups_upd (l7.lst hy) (fun _ z => nomatch z)
          refine ⟨ys, l7.lst hy, Nat.lt_of_le_of_lt hyl (by rw [sizeLine_eq]; decide), (l5.trans l7).mut del_self, (l5'.trans l7).mut hD, _, upd_same, ?_⟩
          · rw [range_filterMap, hFj, ← List.append_assoc]
            exact Ats.app ((hb.le l7).tp tp) (Ats.cons (hv.tp tp) Ats.nil)
        · refine ⟨l5.trans l7, l5'.trans l7, ys, l7.lst hy, ?_⟩
          rw [range_filterMap, hFj]
          simpa using hb.le l7
      · obtain rfl : j = n1 := by omega
        refine .inl ⟨wk1.stops H5 (hG1 H5 l5' l5), l5', ys, hy, ?_⟩
        rw [eF, ← hF]
        exact hb
    · refine ⟨l.trans l4, xs, l4.lst hx, ?_⟩
      rw [eF, hF, List.append_nil]
      exact ha.le l4
  · obtain rfl : i = n := by omega
    exact .inl ⟨wk.stops H (hG H l), hd H xs l hx ha⟩
/-- what is never reached -/
def tDead : TS := fun _ _ _ => False
theorem ps_dead {X : Cx} {st : Stmt} : PS X st tDead := ⟨fun _ _ _ _ _ _ h => h.elim⟩
theorem pss_dead {X : Cx} {sts : List Stmt} : PSs X sts tDead := ⟨fun _ _ _ _ _ _ h => h.elim⟩
end Lt

/-! Lt, part J: comprehensions of dicts told by their own object, of one clause and of two. -/
namespace Lt
open PySem PySem.Spec PyProof.Rows L2

section
variable {X : Cx} {pins : List (Addr × Obj)} {σ : L2.St} {H : Hp} {s : Shared} {a : Addr} {y v : V} {u r : Value} {A : Around} {E : Value → Shared → Prop}
theorem dp_dictSet {R : Hp → Prop} {Q : Unit → Shared → Prop} (hu : A.units + 64 < cLine) (I : Inv X pins σ H s) (g : DP X.prog X.w H a y v R) (ry : RelV y u) (rv : RelV v r) (h : ∀ H' s', Inv X pins σ H' s' → R H' → Q () s') :
    wpAny (model X.prog X.w) A (dictSet a u r) Q E s := by
  rcases g with ⟨kvs, k, e, ey, l, kR⟩ | ⟨kvs, k, b, e, ey, ak, hd, l, kR⟩
  · subst ey
    obtain ⟨_, o0, e0, _⟩ := id e
    obtain ⟨z, hs, vs, rel, dd⟩ := e.dict I.hok
    have hz : vs.length ≤ sizeLine := by
      rw [← rel.length]
      unfold lfs
      rw [List.length_map]
      exact z
    have hl : (putK kvs k v).length ≤ sizeLine := by have := length_putK kvs k v; omega
    refine wpAny_dictSet_pairs (hsz := hz) (sg_is ry) dd fun h' dd' hsb => ?_
    obtain ⟨o, ho, i⟩ := isLD_of hl (by rw [← putK_lfs]; exact rel.put (lf k) rv) dd'
    exact h _ _ (Inv.rawset I e0 hsb ho) (kR o i)
  · subst ey
    cases (show u = Value.ref b from ry)
    obtain ⟨_, o0, e0, _⟩ := id e
    obtain ⟨z, hs, xs, rel, dd⟩ := e.dict I.hok
    have hz : xs.length ≤ sizeLine := by rw [← rel.length]; exact z
    have hl : (putK kvs k v).length ≤ sizeLine := by have := length_putK kvs k v; omega
    have hroom : (nestedKind X.prog X.w).room A := by show A.units + 8 < cLine; omega
    refine wpAny_dictSet_heap (hsz := hz) hroom (key_is I.hok ak hd) dd fun h' dd' hsb => ?_
    obtain ⟨o, ho, i⟩ := isND_of (H := H) hl (rel.put ak hd rv) dd'
    exact h _ _ (Inv.rawset I e0 hsb ho) (kR o i)
end
/-- {k: v for tg in iter if ..} -/
def tDc1 (P : Program) (w : World) (wi : TI) (g : TG) (tt : TT) (tk tv : TE) (vs : List Nat) : TE := fun σ H Q => wi σ H fun J H1 => ∀ D, H1 D = none → (D == sysModules) = false → ∃ W : Nat → Nat → Hp → Prop, (∃ m, W 0 m (L2.upd H1 D (raw D newD))) ∧ ∀ i m H, W i m H →
  (J.stop i H ∧ Q (.ref D) H) ∨ (J.go i H ∧ ∃ Nx : Hp → Prop, (∀ H', Nx H' → ∃ m', m' < m ∧ W (i + 1) m' H') ∧ ∀ x H', J.yld i H x H' → g x (wipe σ vs) H' fun σ2 H2 => wipe σ2 vs = wipe σ vs ∧ tt σ2 H2 fun b H3 =>
    if b = true then tk σ2 H3 fun y H4 => tv σ2 H4 fun z H5 => DP P w H5 D y z Nx else Nx H3)
/-- {k: v for tg in iter if .. for tg1 in iter1 if ..} -/
def tDc2 (P : Program) (w : World) (wi : TI) (g : TG) (tt : TT) (wi1 : TI) (g1 : TG) (tt1 : TT) (tk tv : TE) (vs vs1 : List Nat) : TE := fun σ H Q => wi σ H fun J H1 => ∀ D, H1 D = none → (D == sysModules) = false → ∃ W : Nat → Nat → Hp → Prop, (∃ m, W 0 m (L2.upd H1 D (raw D newD))) ∧ ∀ i m H, W i m H →
  (J.stop i H ∧ Q (.ref D) H) ∨ (J.go i H ∧ ∃ Nx : Hp → Prop, (∀ H', Nx H' → ∃ m', m' < m ∧ W (i + 1) m' H') ∧ ∀ x H', J.yld i H x H' → g x (wipe σ vs) H' fun σ2 H2 => wipe σ2 vs = wipe σ vs ∧ tt σ2 H2 fun b H3 =>
    if b = true then wi1 σ2 H3 fun J1 H4 => ∃ W1 : Nat → Nat → Hp → Prop, (∃ m, W1 0 m H4) ∧ ∀ j k H, W1 j k H →
      (J1.stop j H ∧ Nx H) ∨ (J1.go j H ∧ ∃ Nx1 : Hp → Prop, (∀ H', Nx1 H' → ∃ k', k' < k ∧ W1 (j + 1) k' H') ∧ ∀ x H', J1.yld j H x H' → g1 x (wipe σ2 vs1) H' fun σ3 H5 => wipe σ3 vs1 = wipe σ2 vs1 ∧ tt1 σ3 H5 fun b H6 =>
        if b = true then tk σ3 H6 fun y H7 => tv σ3 H7 fun z H8 => DP P w H8 D y z Nx1 else Nx1 H6)
    else Nx H3)
theorem compTurn2_outD (kx vx t_0 i_0 t_1 i_1 : Expr) (ifs_0 ifs_1 : List Expr) (scp : Scope) (pos : Pos) (it : Value) (D : Addr) (env : Env) :
    compTurn (.DictComp kx vx [⟨t_0, i_0, ifs_0, 0⟩, ⟨t_1, i_1, ifs_1, 0⟩] scp pos) 0 it (.ref D) env = (do
      standAt i_0.pos
      match ← pyNext it with
      | none => pure (.done .next)
      | some v =>
        letOwnedTupleGo t_0 it v
        assign t_0 env v
        let mut ok := true
        for c in ifs_0 do
          if ok then ok ← isTrue c env (eval c env)
        if ok then
          let x ← eval i_1 env
          standAt i_1.pos
          let x ← foldedSetIterable i_1 env x
          let _ ← runOwn (.compStart (.DictComp kx vx [⟨t_0, i_0, ifs_0, 0⟩, ⟨t_1, i_1, ifs_1, 0⟩] scp pos) 1 (← holding [x] (pyIter x)) (.ref D) env) env
        again (.compLoop (.DictComp kx vx [⟨t_0, i_0, ifs_0, 0⟩, ⟨t_1, i_1, ifs_1, 0⟩] scp pos) 0 it (.ref D) env)) := by rfl
theorem compTurn2_inD (kx vx t_0 i_0 t_1 i_1 : Expr) (ifs_0 ifs_1 : List Expr) (scp : Scope) (pos : Pos) (it : Value) (D : Addr) (env : Env) :
    compTurn (.DictComp kx vx [⟨t_0, i_0, ifs_0, 0⟩, ⟨t_1, i_1, ifs_1, 0⟩] scp pos) 1 it (.ref D) env = (do
      standAt i_1.pos
      match ← pyNext it with
      | none => pure (.done .next)
      | some v =>
        letOwnedTupleGo t_1 it v
        assign t_1 env v
        let mut ok := true
        for c in ifs_1 do
          if ok then ok ← isTrue c env (eval c env)
        if ok then
          (do
            let kv ← eval kx env
            let vv ← holding [kv] (eval vx env)
            standAt { kx.pos with endLine := vx.pos.endLine, endCol := vx.pos.endCol }
            holding [kv, vv] (dictSet D kv vv))
        again (.compLoop (.DictComp kx vx [⟨t_0, i_0, ifs_0, 0⟩, ⟨t_1, i_1, ifs_1, 0⟩] scp pos) 1 it (.ref D) env)) := by rfl

section
variable {prog : Program} {w : World} {A : Around} {R : Result → Shared → Prop} {s : Shared} {kx vx t_0 i_0 t_1 i_1 : Expr} {ifs_0 ifs_1 : List Expr} {scp : Scope} {pos : Pos} {it : Value} {D : Addr} {env : Env}
/-- the loop of the first clause -/
theorem compLoop2_outD (hs : ∀ x, foldedSetIterable i_1 env x = pure x) (I : Nat → Shared → Prop)
    (trn : ∀ n s, I n s → wpAny (model prog w) A (pyNext it) (fun r t₁ => match r with
      | none => R (.ok .next) t₁
      | some v => wpAny (model prog w) A (letOwnedTupleGo t_0 it v) (fun _ t₁' => wpAny (model prog w) A (assign t_0 env v) (fun _ t₂ =>
          wpAny (model prog w) A (forIn ifs_0 true fun c r => if r = true then do let ok ← isTrue c env (eval c env); pure (ForInStep.yield ok) else pure (ForInStep.yield r)) (fun ok t₃ =>
            if ok = true then wpAny (model prog w) A (eval i_1 env) (fun x t₄ => wpAny (model prog w) A (pyIter x) (fun it_1 t₅ =>
              codeAny (model prog w) A (.compStart (.DictComp kx vx [⟨t_0, i_0, ifs_0, 0⟩, ⟨t_1, i_1, ifs_1, 0⟩] scp pos) 1 it_1 (.ref D) env) (fun r s' => match r with
                | .ok _ => ∃ m, m < n ∧ I m s'
                | .error _ => False) t₅) (notedBy (model prog w) A env fun e s' => R (.error e) s') t₄) (notedBy (model prog w) A env fun e s' => R (.error e) s') t₃
            else ∃ m, m < n ∧ I m t₃) (notedBy (model prog w) A env fun e s' => R (.error e) s') t₂) (notedBy (model prog w) A env fun e s' => R (.error e) s') t₁') (notedBy (model prog w) A env fun e s' => R (.error e) s') t₁) (notedBy (model prog w) A env fun e s' => R (.error e) s') s)
    (n : Nat) (h : I n s) :
    codeAny (model prog w) A (.compLoop (.DictComp kx vx [⟨t_0, i_0, ifs_0, 0⟩, ⟨t_1, i_1, ifs_1, 0⟩] scp pos) 0 it (.ref D) env) R s := by
  refine codeAny_loop rfl I (fun n s hJ => ?_) n h
  show wpAny _ A ((compTurn (.DictComp kx vx [⟨t_0, i_0, ifs_0, 0⟩, ⟨t_1, i_1, ifs_1, 0⟩] scp pos) 0 it (.ref D) env).onRaise (fun x => do noteFrame x env; theTreesLotGoes x)) _ _ s
  refine wpAny_noted ?_
  rw [compTurn2_outD]
  refine wpAny_bind (wpAny_standAt (wpAny_bind (wpAny_mono (trn n s hJ) (fun r t₁ k₁ => ?_) fun _ _ h' => h')))
  cases r with
  | none => exact wpAny_pure k₁
  | some v =>
    refine wpAny_bind (wpAny_mono k₁ (fun _ t₁' k₁' => ?_) fun _ _ h' => h')
    refine wpAny_bind (wpAny_mono k₁' (fun _ t₂ k₂ => wpAny_bind (wpAny_mono k₂ (fun ok t₃ k₃ => ?_) fun _ _ h' => h')) fun _ _ h' => h')
    cases ok with
    | false => exact wpAny_pure ⟨rfl, k₃⟩
    | true =>
      refine wpAny_bind (wpAny_mono k₃ (fun x t₄ k₄ => ?_) fun _ _ h' => h')
      refine wpAny_bind (wpAny_standAt (wpAny_bind (wpAny_of_eq (hs x) (wpAny_bind (wpAny_holding (wpAny_mono k₄ (fun it_1 t₅ k₅ => ?_) fun _ _ h' => h'))))))
      refine wpAny_bind (wpAny_runOwn ?_)
      rw [Around.mark_none]
      refine codeAny_mono k₅ fun r s' hr => ?_
      cases r with
      | ok f =>
        first
          | exact wpAny_pure ⟨rfl, hr⟩
          | exact wpAny_bind (wpAny_pure (wpAny_pure ⟨rfl, hr⟩))
      | error e => exact hr.elim
/-- the loop of the second -/
theorem compLoop2_inD (I : Nat → Shared → Prop)
    (trn : ∀ n s, I n s → wpAny (model prog w) A (pyNext it) (fun r t₁ => match r with
      | none => R (.ok .next) t₁
      | some v => wpAny (model prog w) A (letOwnedTupleGo t_1 it v) (fun _ t₁' => wpAny (model prog w) A (assign t_1 env v) (fun _ t₂ =>
          wpAny (model prog w) A (forIn ifs_1 true fun c r => if r = true then do let ok ← isTrue c env (eval c env); pure (ForInStep.yield ok) else pure (ForInStep.yield r)) (fun ok t₃ =>
            if ok = true then wpAny (model prog w) A (eval kx env) (fun kv t₄ => wpAny (model prog w) A (eval vx env) (fun vv t₅ =>
              wpAny (model prog w) A (dictSet D kv vv) (fun _ t₆ => ∃ m, m < n ∧ I m t₆) (notedBy (model prog w) A env fun e s' => R (.error e) s') t₅) (notedBy (model prog w) A env fun e s' => R (.error e) s') t₄) (notedBy (model prog w) A env fun e s' => R (.error e) s') t₃
            else ∃ m, m < n ∧ I m t₃) (notedBy (model prog w) A env fun e s' => R (.error e) s') t₂) (notedBy (model prog w) A env fun e s' => R (.error e) s') t₁') (notedBy (model prog w) A env fun e s' => R (.error e) s') t₁) (notedBy (model prog w) A env fun e s' => R (.error e) s') s)
    (n : Nat) (h : I n s) :
    codeAny (model prog w) A (.compLoop (.DictComp kx vx [⟨t_0, i_0, ifs_0, 0⟩, ⟨t_1, i_1, ifs_1, 0⟩] scp pos) 1 it (.ref D) env) R s := by
  refine codeAny_loop rfl I (fun n s hJ => ?_) n h
  show wpAny _ A ((compTurn (.DictComp kx vx [⟨t_0, i_0, ifs_0, 0⟩, ⟨t_1, i_1, ifs_1, 0⟩] scp pos) 1 it (.ref D) env).onRaise (fun x => do noteFrame x env; theTreesLotGoes x)) _ _ s
  refine wpAny_noted ?_
  rw [compTurn2_inD]
  refine wpAny_bind (wpAny_standAt (wpAny_bind (wpAny_mono (trn n s hJ) (fun r t₁ k₁ => ?_) fun _ _ h' => h')))
  cases r with
  | none => exact wpAny_pure k₁
  | some v =>
    refine wpAny_bind (wpAny_mono k₁ (fun _ t₁' k₁' => ?_) fun _ _ h' => h')
    refine wpAny_bind (wpAny_mono k₁' (fun _ t₂ k₂ => wpAny_bind (wpAny_mono k₂ (fun ok t₃ k₃ => ?_) fun _ _ h' => h')) fun _ _ h' => h')
    cases ok with
    | false => exact wpAny_pure ⟨rfl, k₃⟩
    | true =>
      exact wpAny_bind (wpAny_bind (wpAny_mono k₃ (fun kv t₄ k₄ => wpAny_bind (wpAny_holding (wpAny_mono k₄ (fun vv t₅ k₅ => wpAny_bind (wpAny_standAt (wpAny_holding (wpAny_mono k₅ (fun _ t₆ k₆ => wpAny_pure ⟨rfl, k₆⟩) fun _ _ h' => h')))) fun _ _ h' => h'))) fun _ _ h' => h'))
/-- the second clause's start -/
theorem compStart1_okD (h_0 : codeAny (model prog w) A (.compLoop (.DictComp kx vx [⟨t_0, i_0, ifs_0, 0⟩, ⟨t_1, i_1, ifs_1, 0⟩] scp pos) 1 it (.ref D) env) R s)
    (h : wpAny (model prog w) A (pyIter it) (fun it' s' => codeAny (model prog w) A (.compLoop (.DictComp kx vx [⟨t_0, i_0, ifs_0, 0⟩, ⟨t_1, i_1, ifs_1, 0⟩] scp pos) 1 it' (.ref D) env) R s')
      (notedBy (model prog w) A env fun x s' => R (.error x) s') s) :
    codeAny (model prog w) A (.compStart (.DictComp kx vx [⟨t_0, i_0, ifs_0, 0⟩, ⟨t_1, i_1, ifs_1, 0⟩] scp pos) 1 it (.ref D) env) R s := by
  refine codeAny_of_tree ?_
  show wpAny _ _ ((compStart (.DictComp kx vx [⟨t_0, i_0, ifs_0, 0⟩, ⟨t_1, i_1, ifs_1, 0⟩] scp pos) 1 it (.ref D) env).onRaise (fun x => do noteFrame x env; standAt theWindowsPlace)) _ _ s
  refine wpAny_notedAt ?_
  unfold compStart
  show wpAny _ _ (ask >>= _) _ _ s
  refine wpAny_bind (wpAny_askSetting (wpAny_ite ?_))
  split
  · first
      | exact wpAny_bind (wpAny_pure (wpAny_pure (And.intro rfl h_0)))
      | exact wpAny_pure (And.intro rfl h_0)
  · first
      | exact wpAny_bind (wpAny_rule (wpAny_bind (wpAny_standAt (wpAny_bind (wpAny_mono h (fun it' s' h' => wpAny_pure (And.intro rfl h')) fun _ _ x => x)))))
      | (refine wpAny_bind (wpAny_rule ?_); show wpAny _ _ (standAt i_1.pos >>= _) _ _ s; exact wpAny_bind (wpAny_standAt (wpAny_bind (wpAny_mono h (fun it' s' h' => wpAny_pure (And.intro rfl h')) fun _ _ x => x))))
end


section
variable {X : Cx}
theorem dc1_core {pins : List (Addr × Obj)} {s : Shared} {σ : L2.St} {H : Hp} {Q : VK} {kx vx tg iter : Expr} {iffs : List Expr} {scp : Scope} {oww : List (Str × Nat)} {pos pos' : Pos} {wi : TI} {g : TG} {tt : TT} {tk tv : TE} {use : Option (Value → Sem Unit)} {Qf : Value → Shared → Prop}
    (hu : X.A.units + 64 < cLine) (hc : X.calm = true) (hNd : X.N.Nodup) (I : Inv X pins σ H s) (hi : PI X tg iter wi) (ok : BlkOk X.N X.env.scope scp oww)
    (hg : ∀ (s : Shared) (H : Hp) (C : Addr) (cq : List (Str × Addr)) (fp : List Addr), PG (X.blk s H scp (compEnvC scp cq C X.env) fp) tg g) (ht : ∀ (s : Shared) (H : Hp) (C : Addr) (cq : List (Str × Addr)) (fp : List Addr), PTs (X.blk s H scp (compEnvC scp cq C X.env) fp) iffs tt)
    (hk : ∀ (s : Shared) (H : Hp) (C : Addr) (cq : List (Str × Addr)) (fp : List Addr), PE (X.blk s H scp (compEnvC scp cq C X.env) fp) kx tk)
    (he : ∀ (s : Shared) (H : Hp) (C : Addr) (cq : List (Str × Addr)) (fp : List Addr), PE (X.blk s H scp (compEnvC scp cq C X.env) fp) vx tv) (hs : ∀ x, foldedSetIterable iter X.env x = pure x)
    (h : tDc1 X.prog X.w wi g tt tk tv (oww.map (·.2)) σ H Q)
    (hZZ : ∀ D C s' m H', Inv X pins σ H' s' → Q (.ref D) H' → s'.heap.Ns C m → FpOk X pins H' C → compPost (model X.prog X.w) X.A X.xe use Qf (.ref D) C (.ok .next) s') :
    wpAny (model X.prog X.w) X.A (comprehension (.DictComp kx vx [⟨tg, iter, iffs, 0⟩] scp pos) scp X.env pos' newDict false (eval iter X.env) use) Qf X.xe s := by
  have hfr : ∀ y ∈ scp.names, y.2 = .free → ∃ c, X.env.cells.lookup y.1 = some c := fun y hy e => by
    rcases ok.free y hy e with kk | kk
    · exact I.ok.has _ (.inl kk)
    · exact I.ok.has _ (.inr kk)
  refine wpAny_comprehension_free (use := use) rfl hs (closure_ok hfr) ok.kind (fun y hy e => by rw [ok.uniq y hy, e])
    (thn (hi.run pins s σ H _ I h) fun xv s_1 hx => thn hx fun itv s_2 h_2 => ?_)
  obtain ⟨it, fp, tn, J, H_2, e, I_2, T, st_2, f_2, q⟩ := h_2
  subst e
  refine wpAny_newObj_type (newEnv_comp ?_)
  generalize hD : s_2.heap.objs.size = D
  have hDs : (D == sysModules) = false := by rw [← hD]; exact nosys I_2 (Nat.le_refl _)
  have hDn : H_2 D = none := I_2.hok.fresh (Nat.le_of_eq hD)
  obtain ⟨W, ⟨m_0, w_0⟩, trn⟩ := q D hDn hDs
  -- the new list
  generalize hs_3 : ({ s_2 with heap := s_2.heap.push { cls := .type "dict", data := .dict #[] } } : Shared) = s_3
  have I_3 : Inv X pins σ (L2.upd H_2 D (raw D newD)) s_3 := by
    rw [← hs_3]
    refine I_2.laid (t' := s_2.toks) (fun b o e => Heap.get?_push_of_some _ e) (Nat.le_of_eq hD) (raw_ok ?_)
    rw [← hD]
    exact Heap.get?_push_size _ rfl
  have h_3 : s_3.heap = s_2.heap.push { cls := .type "dict", data := .dict #[] } := by rw [← hs_3]
  have sz : ∀ b ∈ fp, b < s_2.heap.objs.size := fun b hb => by
    obtain ⟨o, e, _⟩ := T.obj _ _ st_2 b hb
    exact Heap.lt_size e
  have f_3 : ∀ b ∈ fp, FpOk X pins (L2.upd H_2 D (raw D newD)) b ∧ b < s_3.heap.objs.size := fun b hb => by
    have hlt := sz b hb
    refine ⟨⟨?_, (f_2 b hb).2⟩, by rw [h_3, Heap.size_push]; exact Nat.lt_succ_of_lt hlt⟩
    rw [upd_ne (by rw [← hD]; exact Nat.ne_of_lt hlt)]
    exact (f_2 b hb).1
  have st_3 : tn 0 s_3.heap := T.keep _ _ _ st_2 fun b _ o e => by rw [h_3]; exact Heap.get?_push_of_some _ e
  have I_4 := block_start I_3 ok hNd f_3
  have pg := hg s_3 (L2.upd H_2 D (raw D newD)) s_3.heap.objs.size (cellsFrom (s_3.heap.objs.size + 1) scp.names (cloFrom X.env.cells scp.names [])) fp
  have pt := ht s_3 (L2.upd H_2 D (raw D newD)) s_3.heap.objs.size (cellsFrom (s_3.heap.objs.size + 1) scp.names (cloFrom X.env.cells scp.names [])) fp
  have pk := hk s_3 (L2.upd H_2 D (raw D newD)) s_3.heap.objs.size (cellsFrom (s_3.heap.objs.size + 1) scp.names (cloFrom X.env.cells scp.names [])) fp
  have pe := he s_3 (L2.upd H_2 D (raw D newD)) s_3.heap.objs.size (cellsFrom (s_3.heap.objs.size + 1) scp.names (cloFrom X.env.cells scp.names [])) fp
  show codeAny _ _ (.compStart (.DictComp kx vx [⟨tg, iter, iffs, 0⟩] scp pos) 0 (.ref it) (.ref D) (compEnvC scp (cellsFrom (s_3.heap.objs.size + 1) scp.names (cloFrom X.env.cells scp.names [])) s_3.heap.objs.size X.env)) (compPost (model X.prog X.w) X.A X.xe use Qf (.ref D) s_3.heap.objs.size) { s_3 with heap := pushCells (s_3.heap.push { cls := .type "dict", data := .dict #[] }) scp.names }
  have nfp : ∀ b ∈ fp, (L2.upd H_2 D (raw D newD)) b = none := fun b hb => (f_3 b hb).1.1
  generalize hce : compEnvC scp (cellsFrom (s_3.heap.objs.size + 1) scp.names (cloFrom X.env.cells scp.names [])) s_3.heap.objs.size X.env = ce at I_4 pg pt pk pe ⊢
  have cL : ce.locals = s_3.heap.objs.size := by subst hce; rfl
  generalize hH_3 : L2.upd H_2 D (raw D newD) = H_3 at I_3 I_4 pg pt pk pe w_0 nfp f_3
  generalize hs_4 : ({ s_3 with heap := pushCells (s_3.heap.push { cls := .type "dict", data := .dict #[] }) scp.names } : Shared) = s_4 at I_4 ⊢
  have st_4 : tn 0 s_4.heap := T.keep _ _ _ st_3 fun b _ o e => by rw [← hs_4]; exact pushCells_keeps _ _ _ _ (Heap.get?_push_of_some _ e)
  have stt : ∀ {σ' : L2.St} {H' : Hp} {s' : Shared}, Inv (X.blk s_3 H_3 scp ce fp) [] σ' H' s' → (∀ b ∈ fp, H' b = none) → ∀ b ∈ fp, FpOk (X.blk s_3 H_3 scp ce fp) [] H' b := fun {σ' H' s'} I' hn b hb =>
    ⟨hn b hb, (I'.ok.exf b hb).1, I'.ok.exfs b hb, .inl hb, fun x c e => (I'.ok.exf b hb).2 x c e, fun p hp => absurd (show p ∈ ([] : List (Addr × Obj)) ++ [] from hp) (by simp)⟩
  have loop : codeAny (model X.prog X.w) X.A (.compLoop (.DictComp kx vx [⟨tg, iter, iffs, 0⟩] scp pos) 0 (.ref it) (.ref D) ce) (compPost (model X.prog X.w) X.A X.xe use Qf (.ref D) s_3.heap.objs.size) s_4 := by
    refine compLoop_anyD (fun n s' => ∃ i H', Inv (X.blk s_3 H_3 scp ce fp) [] (wipe σ (oww.map (·.2))) H' s' ∧ tn i s'.heap ∧ (∀ b ∈ fp, H' b = none) ∧ W i n H') ?_ m_0 ⟨0, H_3, I_4, st_4, nfp, w_0⟩
    rintro n s_5 ⟨i, H_5, I_5, st_5, n_5, w_5⟩
    rcases trn i n H_5 w_5 with ⟨stop, qq⟩ | ⟨go, Nx, hNx, step⟩
    · have td := T.done (X.blk s_3 H_3 scp ce fp) rfl rfl rfl hc i [] s_5 _ H_5 (fun _ _ => False) I_5 (stt I_5 n_5) st_5 stop
      refine thnF td fun r s_6 ⟨hr, I_6⟩ => ?_
      subst hr
      -- back in the def's context
      have I_7 : Inv X pins σ H_5 s_6 := I_3.call' (ch := fp) I_6.os I_6.base I_6.hok I_6.bare fun b hb => ⟨(f_3 b hb).1.2.2.2.1, (f_3 b hb).1.2.1, (f_3 b hb).1.2.2.2.2.1, (f_3 b hb).1.2.2.2.2.2⟩
      have nC : H_5 s_3.heap.objs.size = none := by
        have z : H_5 ce.locals = none := I_6.free
        rw [cL] at z
        exact z
      obtain ⟨m, hn, _⟩ := I_6.loc
      have hn : s_6.heap.Ns ce.locals m := hn
      rw [cL] at hn
      exact hZZ D s_3.heap.objs.size s_6 m H_5 I_7 qq hn (I_3.fpOk (Nat.le_refl _) nC)
    · have ti := T.item (X.blk s_3 H_3 scp ce fp) rfl rfl rfl hc i [] s_5 _ H_5 (fun _ _ => False) I_5 (stt I_5 n_5) st_5 go
      refine thnF ti fun r s_6 ⟨u, hr, h_6⟩ => ?_
      subst hr
      refine thnF h_6 fun _ s_7 ⟨x, H_7, I_7, r_7, y_7, st_7, n_7⟩ => ?_
      have I_7' := I_7.pinned (stt I_7 n_7) (T.obj _ _ st_7)
      refine thnF (pg.run _ s_7 _ H_7 x u _ I_7' r_7 (step x H_7 y_7)) fun _ s_8 ⟨σ_8, H_8, I_8, hw_8, q_8⟩ => ?_
      refine thnF (pt.run _ s_8 σ_8 H_8 _ I_8 q_8) fun b s_9 ⟨H_9, I_9, q_9⟩ => ?_
      -- the turn's end
      have fin : ∀ {s' : Shared} {H' : Hp}, Inv (X.blk s_3 H_3 scp ce fp) ([] ++ pinsAt fp s_7.heap) σ_8 H' s' → Nx H' → ∃ m, m < n ∧ ∃ i H', Inv (X.blk s_3 H_3 scp ce fp) [] (wipe σ (oww.map (·.2))) H' s' ∧ tn i s'.heap ∧ (∀ b ∈ fp, H' b = none) ∧ W i m H' := fun {s' H'} I' nxt => by
        obtain ⟨m', hm, w'⟩ := hNx H' nxt
        have pinn : ∀ b ∈ fp, ∀ o, s_7.heap.get? b = some o → s'.heap.get? b = some o ∧ H' b = none := fun b hb o e =>
          let zz := I'.pin (b, o) (List.mem_append_right _ (List.mem_append_right _ (mem_pinsAt hb e)))
          ⟨zz.1, zz.2.1⟩
        have hl : (wipe σ (oww.map (·.2))).length = σ_8.length := by rw [← hw_8, wipe_length]
        refine ⟨m', hm, i + 1, H', (I'.unpinned (pins := [])).weak hl (fun j v e => ?_), T.keep _ _ _ st_7 fun b hb o e => (pinn b hb o e).1, fun b hb => ?_, w'⟩
        · rw [← hw_8] at e
          exact (wipe_some e).1
        · obtain ⟨o, e, _⟩ := T.obj _ _ st_7 b hb
          exact (pinn b hb o e).2
      cases b with
      | false =>
        simp only [Bool.false_eq_true, if_false] at q_9 ⊢
        exact fin I_9 q_9
      | true =>
        simp only [if_true] at q_9 ⊢
        refine thnF (pk.run _ s_9 σ_8 H_9 _ I_9 q_9) fun z s_10 ⟨yk, H_10, I_10, r_10, q_10⟩ => ?_
        refine thnF (pe.run _ s_10 σ_8 H_10 _ I_10 q_10) fun z_2 s_11 ⟨yv, H_11, I_11, r_11, dp⟩ => ?_
        exact dp_dictSet (X := X.blk s_3 H_3 scp ce fp) hu I_11 dp r_10 r_11 fun H_12 s_12 I_12 nxt => fin I_12 nxt
  exact codeAny_compStart_dict loop (T.self X.A 0 _ _ _ st_4 loop)

theorem dc2_core {pins : List (Addr × Obj)} {s : Shared} {σ : L2.St} {H : Hp} {Q : VK} {kx vx tg iter tg_1 iter_1 : Expr} {iffs ifs_1 : List Expr} {scp : Scope} {oww : List (Str × Nat)} {vs_1 : List Nat} {pos pos' : Pos} {wi wi_1 : TI} {g g_1 : TG} {tt tt_1 : TT} {tk tv : TE} {use : Option (Value → Sem Unit)} {Qf : Value → Shared → Prop}
    (hu : X.A.units + 64 < cLine) (hc : X.calm = true) (hNd : X.N.Nodup) (I : Inv X pins σ H s) (hi : PI X tg iter wi) (ok : BlkOk X.N X.env.scope scp oww) (hv : ∀ i ∈ vs_1, i ∈ oww.map (·.2))
    (hg : ∀ (s : Shared) (H : Hp) (C : Addr) (cq : List (Str × Addr)) (fp : List Addr), PG (X.blk s H scp (compEnvC scp cq C X.env) fp) tg g) (ht : ∀ (s : Shared) (H : Hp) (C : Addr) (cq : List (Str × Addr)) (fp : List Addr), PTs (X.blk s H scp (compEnvC scp cq C X.env) fp) iffs tt)
    (hk : ∀ (s : Shared) (H : Hp) (C : Addr) (cq : List (Str × Addr)) (fp : List Addr), PE (X.blk s H scp (compEnvC scp cq C X.env) fp) kx tk) (he : ∀ (s : Shared) (H : Hp) (C : Addr) (cq : List (Str × Addr)) (fp : List Addr), PE (X.blk s H scp (compEnvC scp cq C X.env) fp) vx tv) (hs : ∀ x, foldedSetIterable iter X.env x = pure x)
    (hi_1 : ∀ (s : Shared) (H : Hp) (C : Addr) (cq : List (Str × Addr)) (fp : List Addr), PI (X.blk s H scp (compEnvC scp cq C X.env) fp) tg_1 iter_1 wi_1)
    (hg_1 : ∀ (s : Shared) (H : Hp) (C : Addr) (cq : List (Str × Addr)) (fp : List Addr), PG (X.blk s H scp (compEnvC scp cq C X.env) fp) tg_1 g_1)
    (ht_1 : ∀ (s : Shared) (H : Hp) (C : Addr) (cq : List (Str × Addr)) (fp : List Addr), PTs (X.blk s H scp (compEnvC scp cq C X.env) fp) ifs_1 tt_1)
    (hs_1 : ∀ env x, foldedSetIterable iter_1 env x = pure x)
    (h : tDc2 X.prog X.w wi g tt wi_1 g_1 tt_1 tk tv (oww.map (·.2)) vs_1 σ H Q)
    (hZZ : ∀ D C s' m H', Inv X pins σ H' s' → Q (.ref D) H' → s'.heap.Ns C m → FpOk X pins H' C → compPost (model X.prog X.w) X.A X.xe use Qf (.ref D) C (.ok .next) s') :
    wpAny (model X.prog X.w) X.A (comprehension (.DictComp kx vx [⟨tg, iter, iffs, 0⟩, ⟨tg_1, iter_1, ifs_1, 0⟩] scp pos) scp X.env pos' newDict false (eval iter X.env) use) Qf X.xe s := by
  have hfr : ∀ y ∈ scp.names, y.2 = .free → ∃ c, X.env.cells.lookup y.1 = some c := fun y hy e => by
    rcases ok.free y hy e with kk | kk
    · exact I.ok.has _ (.inl kk)
    · exact I.ok.has _ (.inr kk)
  refine wpAny_comprehension_free (use := use) rfl hs (closure_ok hfr) ok.kind (fun y hy e => by rw [ok.uniq y hy, e])
    (thn (hi.run pins s σ H _ I h) fun xv s_1 hx => thn hx fun itv s_2 h_2 => ?_)
  obtain ⟨it, fp, tn, J, H_2, e, I_2, T, st_2, f_2, q⟩ := h_2
  subst e
  refine wpAny_newObj_type (newEnv_comp ?_)
  generalize hD : s_2.heap.objs.size = D
  have hDs : (D == sysModules) = false := by rw [← hD]; exact nosys I_2 (Nat.le_refl _)
  have hDn : H_2 D = none := I_2.hok.fresh (Nat.le_of_eq hD)
  obtain ⟨W, ⟨m_0, w_0⟩, trn⟩ := q D hDn hDs
  -- the new list
  generalize hs_3 : ({ s_2 with heap := s_2.heap.push { cls := .type "dict", data := .dict #[] } } : Shared) = s_3
  have I_3 : Inv X pins σ (L2.upd H_2 D (raw D newD)) s_3 := by
    rw [← hs_3]
    refine I_2.laid (t' := s_2.toks) (fun b o e => Heap.get?_push_of_some _ e) (Nat.le_of_eq hD) (raw_ok ?_)
    rw [← hD]
    exact Heap.get?_push_size _ rfl
  have h_3 : s_3.heap = s_2.heap.push { cls := .type "dict", data := .dict #[] } := by rw [← hs_3]
  have sz : ∀ b ∈ fp, b < s_2.heap.objs.size := fun b hb => by
    obtain ⟨o, e, _⟩ := T.obj _ _ st_2 b hb
    exact Heap.lt_size e
  have f_3 : ∀ b ∈ fp, FpOk X pins (L2.upd H_2 D (raw D newD)) b ∧ b < s_3.heap.objs.size := fun b hb => by
    have hlt := sz b hb
    refine ⟨⟨?_, (f_2 b hb).2⟩, by rw [h_3, Heap.size_push]; exact Nat.lt_succ_of_lt hlt⟩
    rw [upd_ne (by rw [← hD]; exact Nat.ne_of_lt hlt)]
    exact (f_2 b hb).1
  have st_3 : tn 0 s_3.heap := T.keep _ _ _ st_2 fun b _ o e => by rw [h_3]; exact Heap.get?_push_of_some _ e
  have I_4 := block_start I_3 ok hNd f_3
  have pg := hg s_3 (L2.upd H_2 D (raw D newD)) s_3.heap.objs.size (cellsFrom (s_3.heap.objs.size + 1) scp.names (cloFrom X.env.cells scp.names [])) fp
  have pt := ht s_3 (L2.upd H_2 D (raw D newD)) s_3.heap.objs.size (cellsFrom (s_3.heap.objs.size + 1) scp.names (cloFrom X.env.cells scp.names [])) fp
  have pe := he s_3 (L2.upd H_2 D (raw D newD)) s_3.heap.objs.size (cellsFrom (s_3.heap.objs.size + 1) scp.names (cloFrom X.env.cells scp.names [])) fp
  have pk := hk s_3 (L2.upd H_2 D (raw D newD)) s_3.heap.objs.size (cellsFrom (s_3.heap.objs.size + 1) scp.names (cloFrom X.env.cells scp.names [])) fp
  have pi_1 := hi_1 s_3 (L2.upd H_2 D (raw D newD)) s_3.heap.objs.size (cellsFrom (s_3.heap.objs.size + 1) scp.names (cloFrom X.env.cells scp.names [])) fp
  have pg_1 := hg_1 s_3 (L2.upd H_2 D (raw D newD)) s_3.heap.objs.size (cellsFrom (s_3.heap.objs.size + 1) scp.names (cloFrom X.env.cells scp.names [])) fp
  have pt_1 := ht_1 s_3 (L2.upd H_2 D (raw D newD)) s_3.heap.objs.size (cellsFrom (s_3.heap.objs.size + 1) scp.names (cloFrom X.env.cells scp.names [])) fp
  show codeAny _ _ (.compStart (.DictComp kx vx [⟨tg, iter, iffs, 0⟩, ⟨tg_1, iter_1, ifs_1, 0⟩] scp pos) 0 (.ref it) (.ref D) (compEnvC scp (cellsFrom (s_3.heap.objs.size + 1) scp.names (cloFrom X.env.cells scp.names [])) s_3.heap.objs.size X.env)) (compPost (model X.prog X.w) X.A X.xe use Qf (.ref D) s_3.heap.objs.size) { s_3 with heap := pushCells (s_3.heap.push { cls := .type "dict", data := .dict #[] }) scp.names }
  have nfp : ∀ b ∈ fp, (L2.upd H_2 D (raw D newD)) b = none := fun b hb => (f_3 b hb).1.1
  generalize hce : compEnvC scp (cellsFrom (s_3.heap.objs.size + 1) scp.names (cloFrom X.env.cells scp.names [])) s_3.heap.objs.size X.env = ce at I_4 pg pt pe pk pi_1 pg_1 pt_1 ⊢
  have cL : ce.locals = s_3.heap.objs.size := by subst hce; rfl
  generalize hH_3 : L2.upd H_2 D (raw D newD) = H_3 at I_3 I_4 pg pt pe pk pi_1 pg_1 pt_1 w_0 nfp f_3
  generalize hs_4 : ({ s_3 with heap := pushCells (s_3.heap.push { cls := .type "dict", data := .dict #[] }) scp.names } : Shared) = s_4 at I_4 ⊢
  have st_4 : tn 0 s_4.heap := T.keep _ _ _ st_3 fun b _ o e => by rw [← hs_4]; exact pushCells_keeps _ _ _ _ (Heap.get?_push_of_some _ e)
  have stt : ∀ {σ' : L2.St} {H' : Hp} {s' : Shared}, Inv (X.blk s_3 H_3 scp ce fp) [] σ' H' s' → (∀ b ∈ fp, H' b = none) → ∀ b ∈ fp, FpOk (X.blk s_3 H_3 scp ce fp) [] H' b := fun {σ' H' s'} I' hn b hb =>
    ⟨hn b hb, (I'.ok.exf b hb).1, I'.ok.exfs b hb, .inl hb, fun x c e => (I'.ok.exf b hb).2 x c e, fun p hp => absurd (show p ∈ ([] : List (Addr × Obj)) ++ [] from hp) (by simp)⟩
  have loop : codeAny (model X.prog X.w) X.A (.compLoop (.DictComp kx vx [⟨tg, iter, iffs, 0⟩, ⟨tg_1, iter_1, ifs_1, 0⟩] scp pos) 0 (.ref it) (.ref D) ce) (compPost (model X.prog X.w) X.A X.xe use Qf (.ref D) s_3.heap.objs.size) s_4 := by
    refine compLoop2_outD (hs_1 ce) (fun n s' => ∃ i H', Inv (X.blk s_3 H_3 scp ce fp) [] (wipe σ (oww.map (·.2))) H' s' ∧ tn i s'.heap ∧ (∀ b ∈ fp, H' b = none) ∧ W i n H') ?_ m_0 ⟨0, H_3, I_4, st_4, nfp, w_0⟩
    rintro n s_5 ⟨i, H_5, I_5, st_5, n_5, w_5⟩
    rcases trn i n H_5 w_5 with ⟨stop, qq⟩ | ⟨go, Nx, hNx, step⟩
    · have td := T.done (X.blk s_3 H_3 scp ce fp) rfl rfl rfl hc i [] s_5 _ H_5 (fun _ _ => False) I_5 (stt I_5 n_5) st_5 stop
      refine thnF td fun r s_6 ⟨hr, I_6⟩ => ?_
      subst hr
      -- back in the def's context
      have I_7 : Inv X pins σ H_5 s_6 := I_3.call' (ch := fp) I_6.os I_6.base I_6.hok I_6.bare fun b hb => ⟨(f_3 b hb).1.2.2.2.1, (f_3 b hb).1.2.1, (f_3 b hb).1.2.2.2.2.1, (f_3 b hb).1.2.2.2.2.2⟩
      have nC : H_5 s_3.heap.objs.size = none := by
        have z : H_5 ce.locals = none := I_6.free
        rw [cL] at z
        exact z
      obtain ⟨m, hn, _⟩ := I_6.loc
      have hn : s_6.heap.Ns ce.locals m := hn
      rw [cL] at hn
      exact hZZ D s_3.heap.objs.size s_6 m H_5 I_7 qq hn (I_3.fpOk (Nat.le_refl _) nC)
    · have ti := T.item (X.blk s_3 H_3 scp ce fp) rfl rfl rfl hc i [] s_5 _ H_5 (fun _ _ => False) I_5 (stt I_5 n_5) st_5 go
      refine thnF ti fun r s_6 ⟨u, hr, h_6⟩ => ?_
      subst hr
      refine thnF h_6 fun _ s_7 ⟨x, H_7, I_7, r_7, y_7, st_7, n_7⟩ => ?_
      have I_7' := I_7.pinned (stt I_7 n_7) (T.obj _ _ st_7)
      refine thnF (pg.run _ s_7 _ H_7 x u _ I_7' r_7 (step x H_7 y_7)) fun _ s_8 ⟨σ_8, H_8, I_8, hw_8, q_8⟩ => ?_
      refine thnF (pt.run _ s_8 σ_8 H_8 _ I_8 q_8) fun b s_9 ⟨H_9, I_9, q_9⟩ => ?_
      -- the turn's end, from any slots that know what the block knew at its start
      have fin : ∀ {σ_9 : L2.St} {s' : Shared} {H' : Hp}, Inv (X.blk s_3 H_3 scp ce fp) ([] ++ pinsAt fp s_7.heap) σ_9 H' s' → (wipe σ (oww.map (·.2))).length = σ_9.length → (∀ (j : Nat) v, (wipe σ (oww.map (·.2)))[j]? = some (some v) → σ_9[j]? = some (some v)) → Nx H' →
          ∃ m, m < n ∧ ∃ i H', Inv (X.blk s_3 H_3 scp ce fp) [] (wipe σ (oww.map (·.2))) H' s' ∧ tn i s'.heap ∧ (∀ b ∈ fp, H' b = none) ∧ W i m H' := fun {σ_9 s' H'} I' hl hk nxt => by
        obtain ⟨m', hm, w'⟩ := hNx H' nxt
        have pinn : ∀ b ∈ fp, ∀ o, s_7.heap.get? b = some o → s'.heap.get? b = some o ∧ H' b = none := fun b hb o e =>
          let zz := I'.pin (b, o) (List.mem_append_right _ (List.mem_append_right _ (mem_pinsAt hb e)))
          ⟨zz.1, zz.2.1⟩
        refine ⟨m', hm, i + 1, H', (I'.unpinned (pins := [])).weak hl hk, T.keep _ _ _ st_7 fun b hb o e => (pinn b hb o e).1, fun b hb => ?_, w'⟩
        obtain ⟨o, e, _⟩ := T.obj _ _ st_7 b hb
        exact (pinn b hb o e).2
      have hl_8 : (wipe σ (oww.map (·.2))).length = σ_8.length := by rw [← hw_8, wipe_length]
      have hk_8 : ∀ (j : Nat) v, (wipe σ (oww.map (·.2)))[j]? = some (some v) → σ_8[j]? = some (some v) := fun j v e => by
        rw [← hw_8] at e
        exact (wipe_some e).1
      have hk_9 : ∀ (j : Nat) v, (wipe σ (oww.map (·.2)))[j]? = some (some v) → (wipe σ_8 vs_1)[j]? = some (some v) := fun j v e => by
        rw [← hw_8] at e
        obtain ⟨e_1, e_2⟩ := wipe_some e
        rw [wipe_out fun z => e_2 (hv j z)]
        exact e_1
      cases b with
      | false =>
        simp only [Bool.false_eq_true, if_false] at q_9 ⊢
        exact fin I_9 hl_8 hk_8 q_9
      | true =>
        simp only [if_true] at q_9 ⊢
        refine thnF (pi_1.run _ s_9 σ_8 H_9 _ I_9 q_9) fun xv s_10 hx => thnF hx fun itv s_11 h_11 => ?_
        obtain ⟨it_1, fp_1, tn_1, J_1, H_11, e_1, I_11, T_1, st_11, f_11, W_1, ⟨m_1, w_1⟩, turn_1⟩ := h_11
        subst e_1
        -- the inner loop
        have stat_1 : ∀ {H' : Hp}, (∀ b ∈ fp_1, H' b = none) → ∀ b ∈ fp_1, FpOk (X.blk s_3 H_3 scp ce fp) ([] ++ pinsAt fp s_7.heap) H' b := fun hn b hb => ⟨hn b hb, (f_11 b hb).2⟩
        have loop_1 : codeAny (model X.prog X.w) X.A (.compLoop (.DictComp kx vx [⟨tg, iter, iffs, 0⟩, ⟨tg_1, iter_1, ifs_1, 0⟩] scp pos) 1 (.ref it_1) (.ref D) ce)
            (fun r s' => match r with
              | .ok _ => ∃ m, m < n ∧ ∃ i H', Inv (X.blk s_3 H_3 scp ce fp) [] (wipe σ (oww.map (·.2))) H' s' ∧ tn i s'.heap ∧ (∀ b ∈ fp, H' b = none) ∧ W i m H'
              | .error _ => False) s_11 := by
          refine compLoop2_inD (fun k s' => ∃ j H', Inv (X.blk s_3 H_3 scp ce fp) ([] ++ pinsAt fp s_7.heap) (wipe σ_8 vs_1) H' s' ∧ tn_1 j s'.heap ∧ (∀ b ∈ fp_1, H' b = none) ∧ W_1 j k H') ?_ m_1 ⟨0, H_11, I_11.weak (wipe_length _ _) (fun j v e => (wipe_some e).1), st_11, fun b hb => (f_11 b hb).1, w_1⟩
          rintro k s_12 ⟨j, H_12, I_12, st_12, n_12, w_12⟩
          rcases turn_1 j k H_12 w_12 with ⟨stop_1, nx_1⟩ | ⟨go_1, Nx_1, hNx_1, step_1⟩
          · refine thnF (T_1.done (X.blk s_3 H_3 scp ce fp) rfl rfl rfl hc j _ s_12 (wipe σ_8 vs_1) H_12 (fun _ _ => False) I_12 (stat_1 n_12) st_12 stop_1) fun r s_13 ⟨hr, I_13⟩ => ?_
            subst hr
            exact fin I_13 (hl_8.trans (wipe_length σ_8 vs_1).symm) hk_9 nx_1
          · refine thnF (T_1.item (X.blk s_3 H_3 scp ce fp) rfl rfl rfl hc j _ s_12 (wipe σ_8 vs_1) H_12 (fun _ _ => False) I_12 (stat_1 n_12) st_12 go_1) fun r s_13 ⟨u_1, hr, h_13⟩ => ?_
            subst hr
            refine thnF h_13 fun _ s_14 ⟨x_1, H_14, I_14, r_14, y_14, st_14, n_14⟩ => ?_
            have I_14' := I_14.pinned (stat_1 n_14) (T_1.obj _ _ st_14)
            refine thnF (pg_1.run _ s_14 (wipe σ_8 vs_1) H_14 x_1 u_1 _ I_14' r_14 (step_1 x_1 H_14 y_14)) fun _ s_15 ⟨σ_15, H_15, I_15, hw_15, q_15⟩ => ?_
            refine thnF (pt_1.run _ s_15 σ_15 H_15 _ I_15 q_15) fun b_1 s_16 ⟨H_16, I_16, q_16⟩ => ?_
            have fin_1 : ∀ {s' : Shared} {H' : Hp}, Inv (X.blk s_3 H_3 scp ce fp) (([] ++ pinsAt fp s_7.heap) ++ pinsAt fp_1 s_14.heap) σ_15 H' s' → Nx_1 H' → ∃ m, m < k ∧ ∃ j H', Inv (X.blk s_3 H_3 scp ce fp) ([] ++ pinsAt fp s_7.heap) (wipe σ_8 vs_1) H' s' ∧ tn_1 j s'.heap ∧ (∀ b ∈ fp_1, H' b = none) ∧ W_1 j m H' := fun {s' H'} I' nxt => by
              obtain ⟨m', hm, w'⟩ := hNx_1 H' nxt
              have pinn : ∀ b ∈ fp_1, ∀ o, s_14.heap.get? b = some o → s'.heap.get? b = some o ∧ H' b = none := fun b hb o e =>
                let zz := I'.pin (b, o) (List.mem_append_right _ (List.mem_append_right _ (mem_pinsAt hb e)))
                ⟨zz.1, zz.2.1⟩
              refine ⟨m', hm, j + 1, H', I'.unpinned.weak (by rw [← hw_15, wipe_length]) (fun j v e => by rw [← hw_15] at e; exact (wipe_some e).1), T_1.keep _ _ _ st_14 fun b hb o e => (pinn b hb o e).1, fun b hb => ?_, w'⟩
              obtain ⟨o, e, _⟩ := T_1.obj _ _ st_14 b hb
              exact (pinn b hb o e).2
            cases b_1 with
            | false =>
              simp only [Bool.false_eq_true, if_false] at q_16 ⊢
              exact fin_1 I_16 q_16
            | true =>
              simp only [if_true] at q_16 ⊢
              refine thnF (pk.run _ s_16 σ_15 H_16 _ I_16 q_16) fun z s_17 ⟨yk, H_17, I_17, r_17, q_17⟩ => ?_
              refine thnF (pe.run _ s_17 σ_15 H_17 _ I_17 q_17) fun z_2 s_18 ⟨yv, H_18, I_18, r_18, dp⟩ => ?_
              exact dp_dictSet (X := X.blk s_3 H_3 scp ce fp) hu I_18 dp r_17 r_18 fun H_19 s_19 I_19 nxt => fin_1 I_19 nxt
        exact compStart1_okD loop_1 (T_1.self X.A 0 _ _ _ st_11 loop_1)
  exact codeAny_compStart_dict loop (T.self X.A 0 _ _ _ st_4 loop)

end
section
variable {X : Cx} {P : Program} {w : World}
theorem pe_dc1K {kx vx tg iter : Expr} {iffs : List Expr} {scp : Scope} {own : List (Str × Nat)} {pos : Pos} {wi : TI} {g : TG} {tt : TT} {tk tv : TE} (qp : X.prog = P) (qw : X.w = w) (hu : X.A.units + 64 < cLine) (hc : X.calm = true) (hNd : X.N.Nodup) (hi : PI X tg iter wi) (ok : BlkOk X.N X.env.scope scp own)
    (hg : ∀ (s : Shared) (H : Hp) (C : Addr) (cq : List (Str × Addr)) (fp : List Addr), PG (X.blk s H scp (compEnvC scp cq C X.env) fp) tg g) (ht : ∀ (s : Shared) (H : Hp) (C : Addr) (cq : List (Str × Addr)) (fp : List Addr), PTs (X.blk s H scp (compEnvC scp cq C X.env) fp) iffs tt)
    (hk : ∀ (s : Shared) (H : Hp) (C : Addr) (cq : List (Str × Addr)) (fp : List Addr), PE (X.blk s H scp (compEnvC scp cq C X.env) fp) kx tk) (he : ∀ (s : Shared) (H : Hp) (C : Addr) (cq : List (Str × Addr)) (fp : List Addr), PE (X.blk s H scp (compEnvC scp cq C X.env) fp) vx tv)
    (hs : ∀ x, foldedSetIterable iter X.env x = pure x := by intro _; rfl) : PE X (.DictComp kx vx [⟨tg, iter, iffs, 0⟩] scp pos) (tDc1 P w wi g tt tk tv (own.map (·.2))) := by
  subst qp qw
  refine ⟨fun pins s σ H Q I h => ?_⟩
  rw [arm_eval_DictComp]
  refine dc1_core hu hc hNd I hi ok hg ht hk he hs h fun D C s' m H' I' q hn f => ⟨m, hn, fun h'' sb => ?_⟩
  obtain ⟨f0, f1, f2, f3, f4, f5⟩ := f
  exact ⟨.ref D, H', I'.turned (t' := s'.toks) (fun b o hb e => (sb.2 b hb).trans e) f0 f1 f3 f4 f5, rfl, q⟩
theorem pe_dc2K {kx vx tg iter tg1 iter1 : Expr} {iffs iffs1 : List Expr} {scp : Scope} {own : List (Str × Nat)} {vs1 : List Nat} {pos : Pos} {wi wi1 : TI} {g g1 : TG} {tt tt1 : TT} {tk tv : TE} (qp : X.prog = P) (qw : X.w = w) (hu : X.A.units + 64 < cLine) (hc : X.calm = true) (hNd : X.N.Nodup) (hi : PI X tg iter wi) (ok : BlkOk X.N X.env.scope scp own) (hv : ∀ i ∈ vs1, i ∈ own.map (·.2))
    (hg : ∀ (s : Shared) (H : Hp) (C : Addr) (cq : List (Str × Addr)) (fp : List Addr), PG (X.blk s H scp (compEnvC scp cq C X.env) fp) tg g) (ht : ∀ (s : Shared) (H : Hp) (C : Addr) (cq : List (Str × Addr)) (fp : List Addr), PTs (X.blk s H scp (compEnvC scp cq C X.env) fp) iffs tt)
    (hi1 : ∀ (s : Shared) (H : Hp) (C : Addr) (cq : List (Str × Addr)) (fp : List Addr), PI (X.blk s H scp (compEnvC scp cq C X.env) fp) tg1 iter1 wi1)
    (hg1 : ∀ (s : Shared) (H : Hp) (C : Addr) (cq : List (Str × Addr)) (fp : List Addr), PG (X.blk s H scp (compEnvC scp cq C X.env) fp) tg1 g1) (ht1 : ∀ (s : Shared) (H : Hp) (C : Addr) (cq : List (Str × Addr)) (fp : List Addr), PTs (X.blk s H scp (compEnvC scp cq C X.env) fp) iffs1 tt1)
    (hk : ∀ (s : Shared) (H : Hp) (C : Addr) (cq : List (Str × Addr)) (fp : List Addr), PE (X.blk s H scp (compEnvC scp cq C X.env) fp) kx tk) (he : ∀ (s : Shared) (H : Hp) (C : Addr) (cq : List (Str × Addr)) (fp : List Addr), PE (X.blk s H scp (compEnvC scp cq C X.env) fp) vx tv)
    (hs : ∀ x, foldedSetIterable iter X.env x = pure x := by intro _; rfl) (hs1 : ∀ env x, foldedSetIterable iter1 env x = pure x := by intro _ _; rfl) :
    PE X (.DictComp kx vx [⟨tg, iter, iffs, 0⟩, ⟨tg1, iter1, iffs1, 0⟩] scp pos) (tDc2 P w wi g tt wi1 g1 tt1 tk tv (own.map (·.2)) vs1) := by
  subst qp qw
  refine ⟨fun pins s σ H Q I h => ?_⟩
  rw [arm_eval_DictComp]
  refine dc2_core hu hc hNd I hi ok hv hg ht hk he hs hi1 hg1 ht1 hs1 h fun D C s' m H' I' q hn f => ⟨m, hn, fun h'' sb => ?_⟩
  obtain ⟨f0, f1, f2, f3, f4, f5⟩ := f
  exact ⟨.ref D, H', I'.turned (t' := s'.toks) (fun b o hb e => (sb.2 b hb).trans e) f0 f1 f3 f4 f5, rfl, q⟩
theorem sw_dict {kx vx : Expr} {gs : List Comprehension} {scp : Scope} {pos py : Pos} {y : Str} {l : Nat} {env : Env} (hk : env.scope.kind = .function) (hy : env.scope.names.lookup y = some .local) (hl : (py.line == pos.line) = true)
    (ha : (scp.names.any fun (n, k) => n == y && (k == .local || k == .cell)) = false) : swapsWith (.DictComp kx vx gs scp pos) (some (.Name y py)) l env = pure true := by
  have kindY : env.kindOf y = some .local := hy
  have blockY : env.blockKind = .function := by unfold Env.blockKind; rw [hk]; rfl
  unfold swapsWith; simp only [blockY, kindY, ha, Expr.pos, hl]; rfl
theorem ps_setDc1K {i : Nat} {y : Str} {py spos : Pos}  {kx vx tg iter : Expr} {iffs : List Expr} {scp : Scope} {own : List (Str × Nat)} {pos : Pos} {wi : TI} {g : TG} {tt : TT} {tk tv : TE} (qp : X.prog = P) (qw : X.w = w) (hu : X.A.units + 64 < cLine) (hc : X.calm = true) (hNd : X.N.Nodup) (hy : X.N[i]? = some y) (hyl : X.env.scope.names.lookup y = some .local) (hsw : swapsWith (.DictComp kx vx [⟨tg, iter, iffs, 0⟩] scp pos) (some (.Name y py)) spos.line X.env = pure true) (hi : PI X tg iter wi) (ok : BlkOk X.N X.env.scope scp own)
    (hg : ∀ (s : Shared) (H : Hp) (C : Addr) (cq : List (Str × Addr)) (fp : List Addr), PG (X.blk s H scp (compEnvC scp cq C X.env) fp) tg g) (ht : ∀ (s : Shared) (H : Hp) (C : Addr) (cq : List (Str × Addr)) (fp : List Addr), PTs (X.blk s H scp (compEnvC scp cq C X.env) fp) iffs tt)
    (hk : ∀ (s : Shared) (H : Hp) (C : Addr) (cq : List (Str × Addr)) (fp : List Addr), PE (X.blk s H scp (compEnvC scp cq C X.env) fp) kx tk) (he : ∀ (s : Shared) (H : Hp) (C : Addr) (cq : List (Str × Addr)) (fp : List Addr), PE (X.blk s H scp (compEnvC scp cq C X.env) fp) vx tv)
    (hs : ∀ x, foldedSetIterable iter X.env x = pure x := by intro _; rfl) : PS X (.Assign [.Name y py] (.DictComp kx vx [⟨tg, iter, iffs, 0⟩] scp pos) spos) (tAsg (tDc1 P w wi g tt tk tv (own.map (·.2))) (gName i)) := by
  subst qp qw
  refine ⟨fun pins s σ H D I h => ?_⟩
  rw [exec_Assign_Name_used _ _ _ _ hsw]
  refine wpAny_bind (wpAny_standAt (wpAny_bind ?_))
  show wpAny _ X.A (do let _ ← comprehension (.DictComp kx vx [⟨tg, iter, iffs, 0⟩] scp pos) scp X.env (firstIterPos [⟨tg, iter, iffs, 0⟩] pos) newDict false (eval iter X.env) (some (assign (.Name y py) X.env))) _ _ s
  have h : tDc1 X.prog X.w wi g tt tk tv (own.map (·.2)) σ H (fun x H_1 => gName i x σ H_1 D.nx) := h
  refine wpAny_bind (thn (dc1_core hu (Qf := fun _ s' => SP X pins D .next s') hc hNd I hi ok hg ht hk he hs  h fun L C s' m H' I' q hn f => ?_) fun _ s' hq => wpAny_pure (wpAny_pure hq))
  show wpAny _ _ (assign (.Name y py) X.env (.ref L)) _ _ _
  refine wpAny_assign_Name (store_ok2 (v := V.ref L) I' hNd hy (.inl hyl) rfl (fun s_2 I_2 ⟨a, sb, ha⟩ => ?_) (.inr hyl))
  obtain ⟨f_0, f_1, f_2, f_3, f_4, f_5⟩ := f
  have haC : C ≠ a := by
    rcases ha with z | z
    · rw [z]; exact f_1
    · exact fun e => f_4 y a z e.symm
  refine ⟨m, hn.sameBut sb haC, fun h_3 sb_3 => ?_⟩
  exact ⟨_, H', I_2.turned (t' := s_2.toks) (fun b o hb e => (sb_3.2 b hb).trans e) f_0 f_1 f_3 f_4 f_5, q⟩
theorem ps_setDc2K {i : Nat} {y : Str} {py spos : Pos}  {kx vx tg iter tg1 iter1 : Expr} {iffs iffs1 : List Expr} {scp : Scope} {own : List (Str × Nat)} {vs1 : List Nat} {pos : Pos} {wi wi1 : TI} {g g1 : TG} {tt tt1 : TT} {tk tv : TE} (qp : X.prog = P) (qw : X.w = w) (hu : X.A.units + 64 < cLine) (hc : X.calm = true) (hNd : X.N.Nodup) (hy : X.N[i]? = some y) (hyl : X.env.scope.names.lookup y = some .local) (hsw : swapsWith (.DictComp kx vx [⟨tg, iter, iffs, 0⟩, ⟨tg1, iter1, iffs1, 0⟩] scp pos) (some (.Name y py)) spos.line X.env = pure true) (hi : PI X tg iter wi) (ok : BlkOk X.N X.env.scope scp own) (hv : ∀ i ∈ vs1, i ∈ own.map (·.2))
    (hg : ∀ (s : Shared) (H : Hp) (C : Addr) (cq : List (Str × Addr)) (fp : List Addr), PG (X.blk s H scp (compEnvC scp cq C X.env) fp) tg g) (ht : ∀ (s : Shared) (H : Hp) (C : Addr) (cq : List (Str × Addr)) (fp : List Addr), PTs (X.blk s H scp (compEnvC scp cq C X.env) fp) iffs tt)
    (hi1 : ∀ (s : Shared) (H : Hp) (C : Addr) (cq : List (Str × Addr)) (fp : List Addr), PI (X.blk s H scp (compEnvC scp cq C X.env) fp) tg1 iter1 wi1)
    (hg1 : ∀ (s : Shared) (H : Hp) (C : Addr) (cq : List (Str × Addr)) (fp : List Addr), PG (X.blk s H scp (compEnvC scp cq C X.env) fp) tg1 g1) (ht1 : ∀ (s : Shared) (H : Hp) (C : Addr) (cq : List (Str × Addr)) (fp : List Addr), PTs (X.blk s H scp (compEnvC scp cq C X.env) fp) iffs1 tt1)
    (hk : ∀ (s : Shared) (H : Hp) (C : Addr) (cq : List (Str × Addr)) (fp : List Addr), PE (X.blk s H scp (compEnvC scp cq C X.env) fp) kx tk) (he : ∀ (s : Shared) (H : Hp) (C : Addr) (cq : List (Str × Addr)) (fp : List Addr), PE (X.blk s H scp (compEnvC scp cq C X.env) fp) vx tv)
    (hs : ∀ x, foldedSetIterable iter X.env x = pure x := by intro _; rfl) (hs1 : ∀ env x, foldedSetIterable iter1 env x = pure x := by intro _ _; rfl) :
    PS X (.Assign [.Name y py] (.DictComp kx vx [⟨tg, iter, iffs, 0⟩, ⟨tg1, iter1, iffs1, 0⟩] scp pos) spos) (tAsg (tDc2 P w wi g tt wi1 g1 tt1 tk tv (own.map (·.2)) vs1) (gName i)) := by
  subst qp qw
  refine ⟨fun pins s σ H D I h => ?_⟩
  rw [exec_Assign_Name_used _ _ _ _ hsw]
  refine wpAny_bind (wpAny_standAt (wpAny_bind ?_))
  show wpAny _ X.A (do let _ ← comprehension (.DictComp kx vx [⟨tg, iter, iffs, 0⟩, ⟨tg1, iter1, iffs1, 0⟩] scp pos) scp X.env (firstIterPos [⟨tg, iter, iffs, 0⟩, ⟨tg1, iter1, iffs1, 0⟩] pos) newDict false (eval iter X.env) (some (assign (.Name y py) X.env))) _ _ s
  have h : tDc2 X.prog X.w wi g tt wi1 g1 tt1 tk tv (own.map (·.2)) vs1 σ H (fun x H_1 => gName i x σ H_1 D.nx) := h
  refine wpAny_bind (thn (dc2_core hu (Qf := fun _ s' => SP X pins D .next s') hc hNd I hi ok hv hg ht hk he hs hi1 hg1 ht1 hs1 h fun L C s' m H' I' q hn f => ?_) fun _ s' hq => wpAny_pure (wpAny_pure hq))
  show wpAny _ _ (assign (.Name y py) X.env (.ref L)) _ _ _
  refine wpAny_assign_Name (store_ok2 (v := V.ref L) I' hNd hy (.inl hyl) rfl (fun s_2 I_2 ⟨a, sb, ha⟩ => ?_) (.inr hyl))
  obtain ⟨f_0, f_1, f_2, f_3, f_4, f_5⟩ := f
  have haC : C ≠ a := by
    rcases ha with z | z
    · rw [z]; exact f_1
    · exact fun e => f_4 y a z e.symm
  refine ⟨m, hn.sameBut sb haC, fun h_3 sb_3 => ?_⟩
  exact ⟨_, H', I_2.turned (t' := s_2.toks) (fun b o hb e => (sb_3.2 b hb).trans e) f_0 f_1 f_3 f_4 f_5, q⟩
end
/-! ### what has been laid, one after the other -/
def puts (kvs : List (D × V)) (l : List (D × V)) : List (D × V) := l.foldl (fun k e => putK k e.1 e.2) kvs
theorem puts_length : ∀ (l kvs : List (D × V)), (puts kvs l).length ≤ kvs.length + l.length
  | [], kvs => by simp [puts]
  | e :: l, kvs => by
    have h1 := puts_length l (putK kvs e.1 e.2)
    have h2 := length_putK kvs e.1 e.2
    show (puts (putK kvs e.1 e.2) l).length ≤ _
    rw [List.length_cons]
    omega
theorem puts_app (kvs l r : List (D × V)) : puts kvs (l ++ r) = puts (puts kvs l) r := by unfold puts; rw [List.foldl_append]
/-- the inner loop -/
def InnerD2 (P : Program) (w : World) (g1 : TG) (tt1 : TT) (tk tv : TE) (vs1 : List Nat) (D : Addr) (Nx : Hp → Prop) (σ2 : L2.St) (J1 : It) (H4 : Hp) : Prop := ∃ W1 : Nat → Nat → Hp → Prop, (∃ m, W1 0 m H4) ∧ ∀ j k H, W1 j k H →
  (J1.stop j H ∧ Nx H) ∨ (J1.go j H ∧ ∃ Nx1 : Hp → Prop, (∀ H', Nx1 H' → ∃ k', k' < k ∧ W1 (j + 1) k' H') ∧ ∀ x H', J1.yld j H x H' → g1 x (wipe σ2 vs1) H' fun σ3 H5 => wipe σ3 vs1 = wipe σ2 vs1 ∧ tt1 σ3 H5 fun b H6 =>
    if b = true then tk σ3 H6 fun y H7 => tv σ3 H7 fun z H8 => DP P w H8 D y z Nx1 else Nx1 H6)
def LoopD2 (P : Program) (w : World) (J : It) (g : TG) (tt : TT) (wi1 : TI) (g1 : TG) (tt1 : TT) (tk tv : TE) (vs vs1 : List Nat) (σ : L2.St) (H1 : Hp) (D : Addr) (Q : VK) : Prop := ∃ W : Nat → Nat → Hp → Prop, (∃ m, W 0 m (L2.upd H1 D (raw D newD))) ∧ ∀ i m H, W i m H →
  (J.stop i H ∧ Q (.ref D) H) ∨ (J.go i H ∧ ∃ Nx : Hp → Prop, (∀ H', Nx H' → ∃ m', m' < m ∧ W (i + 1) m' H') ∧ ∀ x H', J.yld i H x H' → g x (wipe σ vs) H' fun σ2 H2 => wipe σ2 vs = wipe σ vs ∧ tt σ2 H2 fun b H3 =>
    if b = true then wi1 σ2 H3 fun J1 H4 => InnerD2 P w g1 tt1 tk tv vs1 D Nx σ2 J1 H4 else Nx H3)
def LoopD1 (P : Program) (w : World) (J : It) (g : TG) (tt : TT) (tk tv : TE) (vs : List Nat) (σ : L2.St) (H1 : Hp) (D : Addr) (Q : VK) : Prop := ∃ W : Nat → Nat → Hp → Prop, (∃ m, W 0 m (L2.upd H1 D (raw D newD))) ∧ ∀ i m H, W i m H →
  (J.stop i H ∧ Q (.ref D) H) ∨ (J.go i H ∧ ∃ Nx : Hp → Prop, (∀ H', Nx H' → ∃ m', m' < m ∧ W (i + 1) m' H') ∧ ∀ x H', J.yld i H x H' → g x (wipe σ vs) H' fun σ2 H2 => wipe σ2 vs = wipe σ vs ∧ tt σ2 H2 fun b H3 =>
    if b = true then tk σ2 H3 fun y H4 => tv σ2 H4 fun z H5 => DP P w H5 D y z Nx else Nx H3)
theorem dc1_eq {P : Program} {w : World} {wi : TI} {g : TG} {tt : TT} {tk tv : TE} {vs : List Nat} {σ : L2.St} {H : Hp} {Q : VK} : tDc1 P w wi g tt tk tv vs σ H Q = wi σ H fun J H1 => ∀ D, H1 D = none → (D == sysModules) = false → LoopD1 P w J g tt tk tv vs σ H1 D Q := rfl
theorem dc2_eq {P : Program} {w : World} {wi : TI} {g : TG} {tt : TT} {wi1 : TI} {g1 : TG} {tt1 : TT} {tk tv : TE} {vs vs1 : List Nat} {σ : L2.St} {H : Hp} {Q : VK} : tDc2 P w wi g tt wi1 g1 tt1 tk tv vs vs1 σ H Q = wi σ H fun J H1 => ∀ D, H1 D = none → (D == sysModules) = false → LoopD2 P w J g tt wi1 g1 tt1 tk tv vs vs1 σ H1 D Q := rfl
theorem nd_put {P : Program} {w : World} {H H' : Hp} {a : Addr} {kvs : List (D × V)} {o : Obj} (h : ND P w H a kvs) (ho : IsND P w H o kvs) (hs : (a == sysModules) = false) : ND P w (L2.upd H a (raw a o)) a kvs := by
  obtain ⟨_, o0, h0, _⟩ := h
  exact ⟨hs, o, upd_same, ho.tp (tups_upd h0 (fun _ z => nomatch z))⟩
theorem nd_raw {P : Program} {w : World} {H H' : Hp} {a : Addr} {kvs kvs' : List (D × V)} {o : Obj} (h : ND P w H a kvs) (ho : IsND P w H o kvs') : ND P w (L2.upd H a (raw a o)) a kvs' := by
  obtain ⟨hs, o0, h0, _⟩ := h
  exact ⟨hs, o, upd_same, ho.tp (tups_upd h0 (fun _ z => nomatch z))⟩
theorem dc1_data {P : Program} {w : World} {J : It} {n : Nat} {G : Hp → Prop} {Y : Nat → Hp → V → Hp → Prop} (wk : Walk J n G Y) {g : TG} {tt : TT} {tk tv : TE} {vs : List Nat} {σ : L2.St} {H1 : Hp} {D' : Addr} {Q : VK} (hD : H1 D' = none) (hsy : (D' == sysModules) = false) (hn : n ≤ 100000) (F : Nat → Option (D × V)) (hG : ∀ H', Le H1 H' → G H')
    (hs : ∀ i x H' H'', i < n → Le H1 H' → (∃ o, H' D' = some (raw D' o)) → Y i H' x H'' → ∀ (Put : V → V → Hp → Prop) (Nk : Hp → Prop), (∀ y z k b H4, Le H' H4 → F i = some (k, z) → y = .ref b → At H4 k y → k.depth ≤ 8 → Put y z H4) → (∀ H3, Le H' H3 → F i = none → Nk H3) →
      g x (wipe σ vs) H'' fun σ2 H2 => wipe σ2 vs = wipe σ vs ∧ tt σ2 H2 fun b H3 => if b = true then tk σ2 H3 fun y H4 => tv σ2 H4 fun z H5 => Put y z H5 else Nk H3)
    (hd : ∀ H', Le H1 H' → ND P w H' D' (puts [] ((List.range n).filterMap F)) → Q (.ref D') H') : LoopD1 P w J g tt tk tv vs σ H1 D' Q := by
  refine ⟨fun i m H => m = n - i ∧ i ≤ n ∧ Le H1 H ∧ ND P w H D' (puts [] ((List.range i).filterMap F)), ⟨n, by simp, Nat.zero_le _, .new hD, hsy, _, upd_same, newD_ND P w _⟩, ?_⟩
  rintro i m H ⟨rfl, hi, l, hN⟩
  by_cases hlt : i < n
  · refine .inr ⟨wk.goes i H hlt (hG H l), fun H' => Le H1 H' ∧ ND P w H' D' (puts [] ((List.range (i + 1)).filterMap F)), fun H' p' => ⟨n - (i + 1), by omega, rfl, hlt, p'⟩, fun x H' y => ?_⟩
    refine hs i x H H' hlt l (by obtain ⟨_, o, ho, _⟩ := hN; exact ⟨o, ho⟩) (wk.yields i H x H' hlt (hG H l) y) _ _ (fun y z k b H4 l4 hF ey hk hdp => ?_) (fun H3 l3 hF => ?_)
    · subst ey
      have hz : (puts [] ((List.range i).filterMap F)).length < sizeLine := by
        have h1 := puts_length ((List.range i).filterMap F) []
        have h2 := List.length_filterMap_le F (List.range i)
        rw [List.length_range] at h2
        rw [List.length_nil] at h1
        rw [sizeLine_eq]
        omega
      refine .inr ⟨_, k, b, hN.le l4, rfl, hk, hdp, hz, fun o ho => ⟨(l.trans l4).mut hD, ?_⟩⟩
      rw [range_filterMap, hF, puts_app]
      exact nd_raw (H' := H4) (hN.le l4) ho
    · refine ⟨l.trans l3, ?_⟩
      rw [range_filterMap, hF]
      simpa using hN.le l3
  · obtain rfl : i = n := by omega
    exact .inl ⟨wk.stops H (hG H l), hd H l hN⟩
theorem dc2_data {P : Program} {w : World} {J : It} {n : Nat} {G : Hp → Prop} {Y : Nat → Hp → V → Hp → Prop} (wk : Walk J n G Y) {g : TG} {tt : TT} {wi1 : TI} {g1 : TG} {tt1 : TT} {tk tv : TE} {vs vs1 : List Nat} {σ : L2.St} {H1 : Hp} {D' : Addr} {Q : VK} (hD : H1 D' = none) (hsy : (D' == sysModules) = false) (F : Nat → List (D × V))
    (hn : (((List.range n).map F).flatten).length ≤ 100000) (hG : ∀ H', Le H1 H' → G H')
    (hs : ∀ i x H' H'', i < n → Le H1 H' → (∃ o, H' D' = some (raw D' o)) → Y i H' x H'' → ∀ (In : L2.St → It → Hp → Prop) (Nk : Hp → Prop),
      (∀ (σ2 : L2.St) (J1 : It) (H4 : Hp) (n1 : Nat) (G1 : Hp → Prop) (Y1 : Nat → Hp → V → Hp → Prop) (F1 : Nat → Option (D × V)), Walk J1 n1 G1 Y1 → Le H' H4 → (List.range n1).filterMap F1 = F i → (∀ H5, Le H1 H5 → Le (del H4 D') H5 → G1 H5) →
        (∀ j y H5 H6, j < n1 → Le H1 H5 → Le (del H4 D') H5 → Y1 j H5 y H6 → ∀ (Put : V → V → Hp → Prop) (Nk1 : Hp → Prop), (∀ y z k b H7, Le H5 H7 → F1 j = some (k, z) → y = .ref b → At H7 k y → k.depth ≤ 8 → Put y z H7) → (∀ H7, Le H5 H7 → F1 j = none → Nk1 H7) →
          g1 y (wipe σ2 vs1) H6 fun σ3 H7 => wipe σ3 vs1 = wipe σ2 vs1 ∧ tt1 σ3 H7 fun b H8 => if b = true then tk σ3 H8 fun y H9 => tv σ3 H9 fun z H10 => Put y z H10 else Nk1 H8) → In σ2 J1 H4) →
      (∀ H4, Le H' H4 → F i = [] → Nk H4) →
      g x (wipe σ vs) H'' fun σ2 H2 => wipe σ2 vs = wipe σ vs ∧ tt σ2 H2 fun b H3 => if b = true then wi1 σ2 H3 fun J1 H4 => In σ2 J1 H4 else Nk H3)
    (hd : ∀ H', Le H1 H' → ND P w H' D' (puts [] (((List.range n).map F).flatten)) → Q (.ref D') H') : LoopD2 P w J g tt wi1 g1 tt1 tk tv vs vs1 σ H1 D' Q := by
  let Pr : List (D × V) → Hp → Prop := fun ds H' => Le H1 H' ∧ ND P w H' D' (puts [] ds)
  refine ⟨fun i m H => m = n - i ∧ i ≤ n ∧ Pr (((List.range i).map F).flatten) H, ⟨n, by simp, Nat.zero_le _, .new hD, hsy, _, upd_same, newD_ND P w _⟩, ?_⟩
  rintro i m H ⟨rfl, hi, l, hN⟩
  by_cases hlt : i < n
  · refine .inr ⟨wk.goes i H hlt (hG H l), Pr (((List.range (i + 1)).map F).flatten), fun H' p' => ⟨n - (i + 1), by omega, rfl, hlt, p'⟩, fun x H' y => ?_⟩
    have eF : ((List.range (i + 1)).map F).flatten = ((List.range i).map F).flatten ++ F i := by
      rw [List.range_succ, List.map_append, List.flatten_append]
      simp
    refine hs i x H H' hlt l (by obtain ⟨_, o, ho, _⟩ := hN; exact ⟨o, ho⟩) (wk.yields i H x H' hlt (hG H l) y) _ _ (fun σ2 J1 H4 n1 G1 Y1 F1 wk1 l4 hF hG1 hs1 => ?_) (fun H4 l4 hF => ?_)
    · refine ⟨fun j k H5 => k = n1 - j ∧ j ≤ n1 ∧ Le (del H4 D') H5 ∧ Pr (((List.range i).map F).flatten ++ (List.range j).filterMap F1) H5, ⟨n1, by simp, Nat.zero_le _, del_le _ _, l.trans l4, ?_⟩, ?_⟩
      · simpa using hN.le l4
      rintro j k H5 ⟨rfl, hj, l5, l5', hN5⟩
      by_cases hjl : j < n1
      · refine .inr ⟨wk1.goes j H5 hjl (hG1 H5 l5' l5), fun H6 => Le (del H4 D') H6 ∧ Pr (((List.range i).map F).flatten ++ (List.range (j + 1)).filterMap F1) H6, fun H6 p6 => ⟨n1 - (j + 1), by omega, rfl, hjl, p6⟩, fun z H6 yz => ?_⟩
        refine hs1 j z H5 H6 hjl l5' l5 (wk1.yields j H5 z H6 hjl (hG1 H5 l5' l5) yz) _ _ (fun y v k b H7 l7 hFj ey hk hdp => ?_) (fun H7 l7 hFj => ?_)
        · subst ey
          have hz : (puts [] (((List.range i).map F).flatten ++ (List.range j).filterMap F1)).length < sizeLine := by
            have h1 := puts_length (((List.range i).map F).flatten ++ (List.range j).filterMap F1) []
            have a1 : ((List.range j).filterMap F1).length ≤ (F i).length := by
              rw [← hF]
              obtain ⟨q, rfl⟩ : ∃ q, n1 = j + q := ⟨n1 - j, by omega⟩
              rw [List.range_add, List.filterMap_append, List.length_append]
              omega
            have a2 := flat_small (F := F) (n := n) (i := i + 1) hlt
            rw [eF, List.length_append] at a2
            rw [List.length_append, List.length_nil] at h1
            rw [sizeLine_eq]
            omega
          refine .inr ⟨_, k, b, hN5.le l7, rfl, hk, hdp, hz, fun o ho => ⟨(l5.trans l7).mut del_self, (l5'.trans l7).mut hD, ?_⟩⟩
          rw [range_filterMap, hFj, ← List.append_assoc, puts_app]
          exact nd_raw (H' := H7) (hN5.le l7) ho
        · refine ⟨l5.trans l7, l5'.trans l7, ?_⟩
          rw [range_filterMap, hFj]
          simpa using hN5.le l7
      · obtain rfl : j = n1 := by omega
        refine .inl ⟨wk1.stops H5 (hG1 H5 l5' l5), l5', ?_⟩
        rw [eF, ← hF]
        exact hN5
    · refine ⟨l.trans l4, ?_⟩
      rw [eF, hF, List.append_nil]
      exact hN.le l4
  · obtain rfl : i = n := by omega
    exact .inl ⟨wk.stops H (hG H l), hd H l hN⟩
end Lt

/-! Lt, part K: isinstance of a dict told by its object; such a dict cleared; data within lists. -/
namespace Lt
open PySem PySem.Spec PyProof.Rows L2

section
variable {X : Cx} {K : PySem.W.Frag} {P : Program} {w : World}
/-- isinstance(x, c), x a dict told by its object -/
def rIsiN (K : PySem.W.Frag) : List V → Hp → VK → Prop := fun xs H Q => ∃ (a : Addr) (c : V) (u : Value) (b : Bool), xs = [.ref a, c] ∧ ClsV c u ∧ IsDict H a ∧ PySem.W.kitOne K (.type "dict") u = some b ∧ Q (.bl b) H
theorem call_isiN : CallR X (.builtin "isinstance") (rIsiN X.K) := by
  intro pins s σ H xs us Q I r h
  obtain ⟨a, c, u, b, rfl, k, dd, e, q⟩ := h
  obtain ⟨u1, u2, rfl, r1, r2⟩ := vals2 r
  have e2 := k.eq r2
  subst e2
  cases (show u1 = Value.ref a from r1)
  obtain ⟨t1, _⟩ := isDict_at I dd
  obtain ⟨o, ho, hc⟩ := t1
  exact PySem.W.kia_one PySem.W.kitx_dict I.kIn ⟨o, ho, hc⟩ e (fun z => nomatch z) fun tk => ⟨.bl b, H, I.tok tk, rfl, q⟩
theorem isiNK (e : X.K = K) : CallR X (.builtin "isinstance") (rIsiN K) := e ▸ call_isiN
/-- d.clear() -/
def tNClear (P : Program) (w : World) (td : TE) : TE := fun σ H Q => td σ H fun x H1 => ∃ a kvs, x = .ref a ∧ ND P w H1 a kvs ∧ ∀ o, IsND P w H1 o [] → Q .non (L2.upd H1 a (raw a o))
theorem pe_nclear {o : Expr} {td : TE} {apos cpos : Pos} (qp : X.prog = P) (qw : X.w = w) (ho : PE X o td) (hbase : attributeBase o "clear" X.env (eval o X.env) = eval o X.env := by rfl) (hline : (apos.endLine == cpos.line) = true := by rfl) :
    PE X (.Call (.Attribute o "clear" apos) [] [] cpos) (tNClear P w td) := by
  subst qp qw
  refine ⟨fun pins s σ H Q I h => ?_⟩
  refine wpAny_Call_method0_late hbase hline (thn (ho.run pins s σ H _ I h) fun v s1 ⟨x, H1, I1, r1, a, kvs, ex, hN, q⟩ => ?_)
  subst ex
  cases (show v = Value.ref a from r1)
  obtain ⟨t1, t2, _⟩ := isDict_at I1 hN.isDict
  refine ⟨"dict", "dict.clear", PySem.F.plainAttrs_dict, PySem.F.slot_dict_clear, PySem.F.type_dict_clear, t1, t2, ?_⟩
  refine Calls.callWith_builtin rfl (PySem.evalArgs_none ?_)
  obtain ⟨hs, o0, h0, z, es, ep, xs, c1, c2, c3, c4, rr⟩ := id hN
  have hr : s1.heap.DictRaw a es ep := ⟨o0, raw_get I1.hok h0, c1, c2⟩
  have hsz : es.size ≤ sizeLine := by rw [size_of_entries c3, ← rr.length]; exact z
  refine call_meetsIn PySem.F.slot_dict_clear hr.typeIs PySem.F.entry_dict_clear (PySem.F.args_dict_clear_1 _) (meets_dict_clear_raw a) ⟨es, ep, hr, hsz, fun h' hr' hsb => ?_⟩
  obtain ⟨o1, g1, g2, g3⟩ := hr'
  exact ⟨.non, _, Inv.rawset (t' := s1.toks) I1 h0 hsb g1, rfl, q o1 ⟨Nat.zero_le _, #[], _, [], g2, g3, rfl, List.nodup_nil, .nil⟩⟩
theorem inDK (e : X.K = K) (hu : X.A.units + 65 < cLine) : OpR X (compareOp .In) (rInD K) := e ▸ op_inD hu
theorem notInDK (e : X.K = K) (hu : X.A.units + 65 < cLine) : OpR X (compareOp .NotIn) (rNotInD K) := e ▸ op_notInD hu
theorem eqLK' (e : X.K = K) (hu : X.A.units + 64 < cLine) : OpR X (compareOp .Eq) (rEqL K) := e ▸ op_eqL hu
theorem pi_enumK {e : Expr} {ta : TA} {p pos tpos : Pos} {elts : List Expr} {kk : Nat} (q : X.K = K) (hg : Gl X "enumerate") (hm : X.mg "enumerate" = none) (ha : PA X [e] ta) (hs : starEach [e] X.env = [(false, eval e X.env)] := by rfl) :
    PI X (.Tuple elts kk tpos) (.Call (.Name "enumerate" p) [e] [] pos) (iEnum K ta) := q ▸ pi_enum hg hm ha hs
end
end Lt

/-! Lt, part L: own exceptions: their classes' facts, calls that may raise, isinstance of one that is caught. -/
namespace Lt
open PySem PySem.Spec PyProof.Rows L2

/-- what the written part tells of an exception class x at C -/
structure ExX (K : PySem.W.Frag) (mg : Str → Option Value) (x : Str) (C : Addr) : Prop where
  g : mg x = some (.ref C)
  q : PySem.W.excIn K C [.type "ValueError", .type "Exception", .type "BaseException", .type "object"] "ValueError.__new__" = true
  k : PySem.W.keepIn K (.ref C) = true
  b : PySem.W.subIn K (.ref C) (.type "BaseException") = some true
  t : PySem.W.typeIn K (.ref C) = some (.type "type")
section
variable {X : Cx} {k : Nat} {x : Str} {ps : List Str} {sp : Sp} {f : Addr} {fd : FuncData} {p pos : Pos} {e : Expr} {es : List Expr} {t : TA} {W : WX}
/-- a call of an own def that may raise -/
theorem pe_ownS (c : Cal X.prog X.w X.K X.mg X.base (L2.CX X.prog X.w) k x ps sp f fd) (hr : Room k X.A) (hg : Gl X x) (tk : Takes X W) (ha : PA X (e :: es) t) (hdb : (x == ("__debug__" : Str)) = false := by decide)
    (he : starEach (e :: es) X.env = (false, eval e X.env) :: starEach es X.env := by rfl) (hpl : (backTo pos (starEach es X.env)).any (·.1) = false := by rfl) :
    PE X (.Call (.Name x p) (e :: es) [] pos) (tCallS sp (WE W) t) := pe_callS c.ok hr hg c.gl c.kp c.bd (fun σ => passAt tk σ) ha hdb he hpl
end
/-- isinstance(e, c), isinstance(e, (c1, ..)): e is caught -/
def rIsX (K : PySem.W.Frag) (cls : Value) (d : Option Addr) (a : Addr) : List V → Hp → VK → Prop := fun xs H Q => ∃ (D : Addr), cls = .ref D ∧ d = none ∧ ExcC K D ∧
  ((∃ (c : V) (cv : Value) (b : Bool), xs = [.ref a, c] ∧ ClsV c cv ∧ PySem.W.kitOne K (.ref D) cv = some b ∧ Q (.bl b) H) ∨
   ∃ (tp : Addr) (cs : List V) (us : List Value) (b : Bool), xs = [.ref a, .ref tp] ∧ H tp = some (.tup cs) ∧ Paired ClsV cs us ∧ PySem.W.kitAny K (.ref D) us = some b ∧ Q (.bl b) H)
theorem call_isX {X : Cx} {a : Addr} {cls : Value} {d : Option Addr} {oe : Obj} {pn : List (Addr × Obj)} (hz : Zc cls d oe) (hf : ∃ vs, oe.data = .fields vs) : CallR (X.suite a ((a, oe) :: pn)) (.builtin "isinstance") (rIsX X.K cls d a) := by
  intro pins s σ H xs us Q I r h
  obtain ⟨D, rfl, rfl, C, h⟩ := h
  obtain ⟨hget, _⟩ := I.pin (a, oe) (List.mem_append.mpr (.inl List.mem_cons_self))
  obtain ⟨vs, hv⟩ := hf
  have J : PySem.W.InstAt s.heap a oe D none := by
    obtain ⟨oc, od, oda, osl⟩ := oe
    obtain ⟨h1, h2⟩ := hz
    dsimp only at h1 h2 hv
    subst h1 h2 hv
    exact ⟨hget, rfl, rfl, trivial⟩
  rcases h with ⟨c, cv, b, rfl, kc, e, q⟩ | ⟨tp, cs, ws, b, rfl, hT, kc, e, q⟩
  · obtain ⟨u1, u2, rfl, r1, r2⟩ := vals2 r
    have e2 := kc.eq r2
    subst e2
    cases (show u1 = Value.ref a from r1)
    exact PySem.W.kia_one (PySem.W.handS_kitx_exc C.hg C.hk C.hs C.hd C.ha C.hn C.ht C.hm) I.kIn J e (fun z => nomatch z) fun tk => ⟨.bl b, H, I.kept (t' := tk) fun _ _ z => z, rfl, q⟩
  · obtain ⟨u1, u2, rfl, r1, r2⟩ := vals2 r
    cases (show u1 = Value.ref a from r1)
    cases (show u2 = Value.ref tp from r2)
    obtain ⟨_, its, rv, o, h1, h2, n, h3⟩ := (show ObjOk X.prog X.w H s.heap tp (.tup cs) from I.hok tp _ hT)
    have e3 := ClsV.all kc rv
    subst e3
    obtain ⟨oc, od, dt, sl⟩ := o
    simp only at h2 h3
    subst h2 h3
    exact PySem.W.kia_tup (PySem.W.handS_kitx_exc C.hg C.hk C.hs C.hd C.ha C.hn C.ht C.hm) I.kIn J h1 e (fun z => nomatch z) fun tk => ⟨.bl b, H, I.kept (t' := tk) fun _ _ z => z, rfl, q⟩
/-! ### an instance whose __init__ may raise -/
def tMakeS (C : Addr) (sp : Sp) (Ew : L2.St → XK) (t : TA) : TE := fun σ H Q => t σ H fun vs H1 => ∀ x dx, H1 x = none → H1 dx = none → dx ≠ x →
  sp (.ref x :: vs) (L2.upd (L2.upd H1 dx (.own x)) x (.ins C dx [])) (fun v H2 => v = .non ∧ Q (.ref x) H2) (Ew σ)
section
variable {X : Cx} {C f : Addr} {k : Nat} {x : Str} {ps : List Str} {sp : Sp} {fd : FuncData} {p pos : Pos} {e : Expr} {es : List Expr} {t : TA} {W : WX}
theorem make_run {pins : List (Addr × Obj)} {σ : L2.St} {H : Hp} {s : Shared} {Q : VK} {us : List Value} {vs : List V} {Ew : XK} (M : Mk X.K C f) (F : FnOk X.prog X.w X.K X.mg X.base (L2.CX X.prog X.w) k f fd ps sp) (hr : Room (k + 1) X.A) (hb : Binds X.K fd ps [])
    (hx : PassesAt (L2.CX X.prog X.w) X σ Ew) (I : Inv X pins σ H s) (r : Vals vs us) (h : ∀ x dx, H x = none → H dx = none → dx ≠ x → sp (.ref x :: vs) (L2.upd (L2.upd H dx (.own x)) x (.ins C dx [])) (fun v H2 => v = .non ∧ Q (.ref x) H2) Ew) :
    wpAny (model X.prog X.w) X.A (call (.ref C) us) (EP X pins σ Q) X.xe s := by
  have asked := h (s.heap.objs.size + 1) s.heap.objs.size (I.hok.fresh (Nat.le_succ _)) (I.hok.fresh (Nat.le_refl _)) (Nat.ne_of_lt (Nat.lt_succ_self _))
  have Im := Inv.made (C := C) I
  have rm : Vals (V.ref (s.heap.objs.size + 1) :: vs) (Value.ref (s.heap.objs.size + 1) :: us) := .cons rfl r
  have hl : (Value.ref (s.heap.objs.size + 1) :: us ++ []).length = ps.length := by
    have el := rm.length
    rw [F.len _ _ _ _ asked] at el
    rw [List.append_nil]
    exact el.symm
  have hb2 := hb _ (Value.ref (s.heap.objs.size + 1) :: us) Im.kIn hl
  rw [List.append_nil] at hb2
  refine wpAny_call (make_map (f := f) I.kIn M.makes M.init (beq_iff_eq.mp M.fn) (codeAny_mono (F.run _ X.stack _ _ ⟨Value.ref (s.heap.objs.size + 1) :: us, []⟩ (Value.ref (s.heap.objs.size + 1) :: us) _ _ Ew (hr.make C us []) (Im.env0.make C us []) hb2 rm asked) fun res s' got => ?_))
  cases res with
  | error er => exact hx pins _ _ er s' Im got
  | ok fl =>
    cases fl with
    | ret u =>
      obtain ⟨v, H', I3, rv, ev, q3⟩ := Im.after got
      subst ev
      exact ⟨rv, V.ref (s.heap.objs.size + 1), H', I3, rfl, q3⟩
    | next => exact got.elim
    | brk => exact got.elim
    | cont => exact got.elim
theorem pe_makeS (M : Mk X.K C f) (F : FnOk X.prog X.w X.K X.mg X.base (L2.CX X.prog X.w) k f fd ps sp) (hr : Room (k + 1) X.A) (hg : Gl X x) (hm : X.mg x = some (.ref C)) (hb : Binds X.K fd ps []) (tk : Takes X W)
    (ha : PA X (e :: es) t) (hdb : (x == ("__debug__" : Str)) = false := by decide) (he : starEach (e :: es) X.env = (false, eval e X.env) :: starEach es X.env := by rfl) (hpl : (backTo pos (starEach es X.env)).any (·.1) = false := by rfl) :
    PE X (.Call (.Name x p) (e :: es) [] pos) (tMakeS C sp (WE W) t) := by
  refine ⟨fun pins s σ H Q I h => ?_⟩
  refine wpAny_Call_Name_kw (ld_glob I hg hm ?_ hdb)
  refine PySem.W.callWith_K (h₀ := X.base) I.ok.mod.kin M.kp (thn (ha.run pos pins s σ H _ I h) fun us s1 hh => ?_) he hpl
  obtain ⟨vs, H1, I1, r, q⟩ := hh
  exact ⟨I1.kIn, make_run M F hr hb (passAt tk σ) I1 r q⟩
end
/-- an exception class as a value -/
theorem pe_cls {X : Cx} {x : Str} {C : Addr} {pos : Pos} (hg : Gl X x) (h : ExX X.K X.mg x C) (hd : (x == ("__debug__" : Str)) = false := by decide) : PE X (.Name x pos) (tC (.ref C)) := pe_glob hg h.g rfl hd
theorem bb_ValueError : bootBuiltins "ValueError" = some (.type "ValueError") := by decide +kernel
theorem allK {X : Cx} {K : PySem.W.Frag} (e : X.K = K) (hc : X.calm = true) : CallR X (.builtin "all") (rAll K) := e ▸ cr_all hc
/-! ### isinstance's answers from what the written part tells -/
theorem kit_self {K : PySem.W.Frag} {C : Addr} : PySem.W.kitOne K (.ref C) (.ref C) = some true := by
  unfold PySem.W.kitOne
  rw [if_pos (beq_self_eq_true _)]
theorem kit_sub {K : PySem.W.Frag} {t : Value} {C : Addr} {b : Bool} (n : (t == .ref C) = false) (hd : PySem.W.hasDictIn K C = true) (ht : PySem.W.typeIn K (.ref C) = some (.type "type")) (h : PySem.W.subIn K t (.ref C) = some b) : PySem.W.kitOne K t (.ref C) = some b := by
  obtain ⟨cd, hc, _⟩ := PySem.W.any_some hd
  unfold PySem.W.kitOne
  rw [n, if_neg Bool.false_ne_true]
  show (if ((PySem.W.clsIn K C).isSome && PySem.W.typeIn K (.ref C) == some (.type "type")) = true then PySem.W.subIn K t (.ref C) else none) = some b
  rw [if_pos (by rw [hc, ht]; rfl)]
  exact h
theorem kit_ve {K : PySem.W.Frag} {C : Addr} {b : Bool} (h : PySem.W.subIn K (.ref C) (.type "ValueError") = some b) : PySem.W.kitOne K (.ref C) (.type "ValueError") = some b := by
  unfold PySem.W.kitOne
  rw [show ((Value.ref C == Value.type "ValueError") = false) from rfl, if_neg Bool.false_ne_true]
  show (if PySem.W.kitMeta "ValueError" = true then PySem.W.subIn K (.ref C) (.type "ValueError") else none) = some b
  rw [if_pos (by decide +kernel)]
  exact h
theorem kit_no {K : PySem.W.Frag} {t c : Value} {r : List Value} (h : PySem.W.kitOne K t c = some false) (g : PySem.W.kitAny K t r = some false) : PySem.W.kitAny K t (c :: r) = some false := by
  unfold PySem.W.kitAny
  rw [h]
  exact g
theorem kit_nil {K : PySem.W.Frag} {t : Value} : PySem.W.kitAny K t [] = some false := rfl
end Lt

namespace Lt
open PySem PySem.Spec PyProof.Rows L2
def top (i : Nat) : Stmt := PySem.Challenge.pw_lietable_k01_paths.main.body.getD i (.Pass ⟨0, 0, 0, 0⟩)

/-! the readings made plain -/
local macro_rules | `(tactic| walk_at "rd") => `(tactic| simp (config := {decide := true}) only [tSeq, tAsg, gName, tC, tVar, tOp, tUn, rI0, rI, rU, tLst, tTup, tNil, tCons, tCB, tTest, tB, tIfS, tRet, tNext, tDrop, tAnd, tOr, tNot, tAndV, tOrV, tNotV, tIf, tSl, tPart, tNoPart, L2.start, List.map, List.length_cons, List.length_nil, List.replicate, List.set_cons_succ, List.set_cons_zero, List.cons_append, List.nil_append, List.append_nil, List.getElem?_cons_succ, List.getElem?_cons_zero, exists_eq_left', Option.some.injEq, V.int.injEq, V.str.injEq, V.bl.injEq, V.ref.injEq, List.cons.injEq, exists_and_left, exists_eq_left, true_and, and_true, and_self, and_assoc, rIxS, rMulS, rEq, rNe, scal_int, scal_str, scal_bl, CDiv, CMul, Nat.zero_le, true_or, or_true, Nat.zero_add, Nat.reduceAdd, Nat.reduceSub, Int.zero_add, tCall, tYes, wipe, reduceIte, if_true, if_false, Bool.false_eq_true, tBM, tBM0, rAppend, gSub, rSetL, tNGet, sNPut, tNGet2, tNNew])
/-! the readings made plain, walks and comprehensions too -/
def LoopF (J : It) (g : TG) (tb : TS) (D : Ends) (σ : L2.St) (H1 : Hp) : Prop := ∃ W : Nat → Nat → L2.St → Hp → Prop, (∃ m, W 0 m σ H1) ∧ ∀ i m σ H, W i m σ H →
  (J.stop i H ∧ D.nx σ H) ∨ (J.go i H ∧ ∃ N : L2.St → Hp → Prop, (∀ σ' H', N σ' H' → ∃ m', m' < m ∧ W (i + 1) m' σ' H') ∧ ∀ x H', J.yld i H x H' → g x σ H' fun σ2 H2 => tb { D with nx := N, ct := N, bk := D.nx } σ2 H2)
theorem for_eq {ti : TI} {g : TG} {tb : TS} {D : Ends} {σ : L2.St} {H : Hp} : tFor ti g tb D σ H = ti σ H fun J H1 => LoopF J g tb D σ H1 := rfl
def LoopC (J : It) (g : TG) (tt : TT) (te : TE) (vs : List Nat) (σ : L2.St) (H1 : Hp) (D : Addr) (Q : VK) : Prop := ∃ W : Nat → Nat → Hp → Prop, (∃ m, W 0 m (L2.upd H1 D (.lst []))) ∧ ∀ i m H, W i m H →
  (J.stop i H ∧ Q (.ref D) H) ∨ (J.go i H ∧ ∃ Nx : Hp → Prop, (∀ H', Nx H' → ∃ m', m' < m ∧ W (i + 1) m' H') ∧ ∀ x H', J.yld i H x H' → g x (wipe σ vs) H' fun σ2 H2 => wipe σ2 vs = wipe σ vs ∧ tt σ2 H2 fun b H3 =>
    if b = true then te σ2 H3 fun y H4 => ∃ acc, H4 D = some (.lst acc) ∧ acc.length < sizeLine ∧ Nx (L2.upd H4 D (.lst (acc ++ [y]))) else Nx H3)
theorem lc_eq {wi : TI} {g : TG} {tt : TT} {te : TE} {vs : List Nat} {σ : L2.St} {H : Hp} {Q : VK} : tLc wi g tt te vs σ H Q = wi σ H fun J H1 => ∀ D, H1 D = none → LoopC J g tt te vs σ H1 D Q := rfl
local macro_rules | `(tactic| walk_at "rg") => `(tactic| simp (config := {decide := true}) only [for_eq, lc_eq, lc2_eq, dc1_eq, dc2_eq, tCallS, tMakeS, tNClear, iStr, iEnum, iPerm, tChain, tLstRg, tRg1, tRg2, iRng1, iRng2, iList, iTup, iNKeys, List.getElem?_nil, List.length_nil, StX.tStar, rCatT, gTup, gCons, gNil, tSeq, tAsg, gName, tC, tVar, tOp, tUn, rI0, rI, rU, tLst, tTup, tNil, tCons, tCB, tTest, tB, tIfS, tRet, tNext, tDrop, tAnd, tOr, tNot, tAndV, tOrV, tNotV, tIf, tSl, tPart, tNoPart, L2.start, List.map, List.length_cons, List.length_nil, List.replicate, List.set_cons_succ, List.set_cons_zero, List.cons_append, List.nil_append, List.append_nil, List.getElem?_cons_succ, List.getElem?_cons_zero, exists_eq_left', Option.some.injEq, V.int.injEq, V.str.injEq, V.bl.injEq, V.ref.injEq, List.cons.injEq, exists_and_left, exists_eq_left, true_and, and_true, and_self, and_assoc, rIxS, rMulS, rEq, rNe, scal_int, scal_str, scal_bl, CDiv, CMul, Nat.zero_le, true_or, or_true, Nat.zero_add, Nat.reduceAdd, Nat.reduceSub, Int.zero_add, tCall, tYes, wipe, reduceIte, if_true, if_false, Bool.false_eq_true, tBM, tBM0, rAppend, gSub, rSetL, tNGet, sNPut, tNGet2, tNNew])
theorem cutV_mem {xs : List V} {lo hi : Option Int} {x : V} (h : x ∈ cutV xs lo hi) : x ∈ xs := by
  unfold cutV at h
  exact List.mem_of_mem_drop (List.mem_of_mem_take h)
theorem strs_sg (ss : List Str) : ss.map V.str = (ss.map some).map sg := by rw [List.map_map]; rfl
/-! ### paths as plain functions -/
def pk (p : List Int) : D := .tup (p.map .num)
theorem nums_inj : ∀ {p q : List Int}, p.map NestedKey.num = q.map .num → p = q
  | [], [], _ => rfl
  | [], _ :: _, h => by simp at h
  | _ :: _, [], h => by simp at h
  | x :: p, y :: q, h => by
    rw [List.map_cons, List.map_cons] at h
    injection h with h1 h2
    injection h1 with h1
    rw [h1, nums_inj h2]
theorem pk_inj {p q : List Int} (h : pk p = pk q) : p = q := by
  injection h with h
  exact nums_inj h
theorem pk_at {H : Hp} {b : Addr} {p : List Int} (h : H b = some (.tup (p.map .int))) : At H (pk p) (.ref b) := At.tup h (ats_ints p)
theorem pk_of {H : Hp} {v : V} {p : List Int} (h : At H (pk p) v) : ∃ b, v = .ref b ∧ H b = some (.tup (p.map .int)) := by
  obtain ⟨b, xs, e, hb, hs⟩ := h.of_tup
  exact ⟨b, e, by rw [hb, hs.ints]⟩
theorem nums_depth : ∀ p : List Int, NestedKey.depthAll (p.map .num) ≤ 1
  | [] => by rw [List.map_nil, NestedKey.depthAll]; exact Nat.zero_le _
  | x :: p => by
    rw [List.map_cons, NestedKey.depthAll, NestedKey.depth]
    have := nums_depth p
    omega
theorem pk_depth (p : List Int) : (pk p).depth ≤ 8 := by
  unfold pk
  rw [NestedKey.depth]
  have := nums_depth p
  omega
/-- the hearers of a path -/
def hear (n : Nat) (p : List Int) : List Int := ((List.range n).map Int.ofNat).filter fun x => decide (x ∉ p)
def growM (n : Nat) (ps : List (List Int)) : List (List Int) := (ps.map fun p => (hear n p).map fun h => p ++ [h]).flatten
def lvlM (n : Nat) : Nat → List (List Int)
  | 0 => [[0]]
  | k + 1 => growM n (lvlM n k)
def pathsM (n k : Nat) : List (List Int) := (lvlM n (min k (n - 1) - 1)).filter fun p => decide (p.length = k)
/-- a path among n -/
structure IsP (n : Nat) (p : List Int) : Prop where
  hd : p.head? = some 0
  nd : p.Nodup
  mem : ∀ x ∈ p, 0 ≤ x ∧ x < n
theorem mem_hear {n : Nat} {p : List Int} {x : Int} : x ∈ hear n p ↔ (0 ≤ x ∧ x < n) ∧ x ∉ p := by
  unfold hear
  rw [List.mem_filter, List.mem_map, decide_eq_true_eq]
  refine ⟨fun ⟨⟨i, hi, e⟩, h⟩ => ⟨?_, h⟩, fun ⟨⟨h0, h1⟩, h⟩ => ⟨⟨x.toNat, List.mem_range.mpr (by omega), Int.toNat_of_nonneg h0⟩, h⟩⟩
  have := List.mem_range.mp hi
  subst e
  exact ⟨Int.natCast_nonneg i, Int.ofNat_lt.mpr this⟩
theorem hear_length (n : Nat) (p : List Int) : (hear n p).length ≤ n := by
  unfold hear
  refine Nat.le_trans (List.length_filter_le _ _) ?_
  rw [List.length_map, List.length_range]
  exact Nat.le_refl _
theorem IsP.add {n : Nat} {p : List Int} {x : Int} (h : IsP n p) (hx : x ∈ hear n p) : IsP n (p ++ [x]) := by
  obtain ⟨hr, hn⟩ := mem_hear.mp hx
  refine ⟨?_, ?_, fun y hy => ?_⟩
  · cases p with
    | nil => have := h.hd; simp at this
    | cons a t => exact h.hd
  · rw [List.nodup_append]
    refine ⟨h.nd, List.nodup_cons.mpr ⟨by simp, List.nodup_nil⟩, fun a ha b hb e => ?_⟩
    rw [List.mem_singleton] at hb
    subst hb
    exact hn (e ▸ ha)
  · rcases List.mem_append.mp hy with h' | h'
    · exact h.mem y h'
    · rw [List.mem_singleton.mp h']
      exact hr
theorem IsP.pos {n : Nat} {p : List Int} (h : IsP n p) : 1 ≤ p.length := by
  cases p with
  | nil => have := h.hd; simp at this
  | cons a t => simp
theorem IsP.n_pos {n : Nat} {p : List Int} (h : IsP n p) : 1 ≤ n := by
  cases p with
  | nil => have := h.hd; simp at this
  | cons a t =>
    have := h.mem a (by simp)
    omega
theorem IsP.zero {n : Nat} (h : 1 ≤ n) : IsP n [0] := ⟨rfl, by simp, fun x hx => by rw [List.mem_singleton.mp hx]; omega⟩
theorem mem_grow {n : Nat} {ps : List (List Int)} {p : List Int} : p ∈ growM n ps ↔ ∃ q ∈ ps, ∃ x ∈ hear n q, p = q ++ [x] := by
  unfold growM
  rw [List.mem_flatten]
  refine ⟨fun ⟨l, hl, hp⟩ => ?_, fun ⟨q, hq, x, hx, e⟩ => ⟨_, List.mem_map.mpr ⟨q, hq, rfl⟩, List.mem_map.mpr ⟨x, hx, e.symm⟩⟩⟩
  obtain ⟨q, hq, rfl⟩ := List.mem_map.mp hl
  obtain ⟨x, hx, e⟩ := List.mem_map.mp hp
  exact ⟨q, hq, x, hx, e.symm⟩
theorem mem_lvl {n : Nat} (hn : 1 ≤ n) : ∀ {k : Nat} {p : List Int}, p ∈ lvlM n k ↔ IsP n p ∧ p.length = k + 1
  | 0, p => by
    rw [lvlM, List.mem_singleton]
    refine ⟨fun e => e ▸ ⟨.zero hn, rfl⟩, fun ⟨h, hl⟩ => ?_⟩
    cases p with
    | nil => simp at hl
    | cons a t =>
      cases t with
      | nil =>
        have := h.hd
        simp at this
        rw [this]
      | cons b t => simp at hl
  | k + 1, p => by
    rw [lvlM, mem_grow]
    refine ⟨fun ⟨q, hq, x, hx, e⟩ => ?_, fun ⟨h, hl⟩ => ?_⟩
    · obtain ⟨h1, h2⟩ := (mem_lvl hn).mp hq
      subst e
      exact ⟨h1.add hx, by rw [List.length_append, h2]; rfl⟩
    · have hne : p ≠ [] := fun e => by subst e; simp at hl
      have e := List.dropLast_concat_getLast hne
      generalize hq : p.dropLast = q at e
      generalize hx : p.getLast hne = x at e
      subst e
      have hql : q.length = k + 1 := by
        rw [List.length_append] at hl
        simp at hl
        exact hl
      have hnd := List.nodup_append.mp h.nd
      have hq' : IsP n q := by
        refine ⟨?_, hnd.1, fun y hy => h.mem y (List.mem_append_left _ hy)⟩
        have := h.hd
        cases q with
        | nil => simp at hql
        | cons a t => exact this
      refine ⟨q, (mem_lvl hn).mpr ⟨hq', hql⟩, x, mem_hear.mpr ⟨h.mem x (by simp), fun hm => hnd.2.2 x hm x (by simp) rfl⟩, rfl⟩
theorem mem_paths {n k : Nat} (hn : 2 ≤ n) (hk : 1 ≤ k) {p : List Int} : p ∈ pathsM n k ↔ IsP n p ∧ p.length = k ∧ k ≤ n - 1 := by
  unfold pathsM
  rw [List.mem_filter, decide_eq_true_eq, mem_lvl (by omega)]
  refine ⟨fun ⟨⟨h1, h2⟩, h3⟩ => ⟨h1, h3, by omega⟩, fun ⟨h1, h2, h3⟩ => ⟨⟨h1, by omega⟩, h2⟩⟩
theorem nodup_len : ∀ (k : Nat) (p : List Int), p.Nodup → (∀ x ∈ p, 0 ≤ x ∧ x < k) → p.length ≤ k
  | 0, [], _, _ => Nat.le_refl _
  | 0, a :: t, _, h => by have := h a (by simp); omega
  | k + 1, p, nd, h => by
    have q := nodup_len k (p.erase k) (nd.erase (k : Int)) fun x hx => by
      have h1 := (nd.mem_erase_iff).mp hx
      have h2 := h x h1.2
      have : x ≠ k := h1.1
      omega
    have := List.length_erase (a := (k : Int)) (l := p)
    split at this <;> omega
/-! ### small things on lists -/
theorem inV_ints {x : Int} : ∀ p : List Int, inV (.int x) (p.map .int) = decide (x ∈ p)
  | [] => rfl
  | a :: p => by
    have ih := inV_ints (x := x) p
    unfold inV at ih ⊢
    rw [List.map_cons, List.any_cons, ih]
    have e : (a == x) = decide (x = a) := by
      by_cases h : x = a
      · simp [h]
      · simp [h, Ne.symm h]
    simp [eqV, e]
theorem ints_flat (p : List Int) : (p.map V.int).all flatV = true := by
  rw [List.all_map, List.all_eq_true]
  intro o _
  rfl
theorem fm_if {α β : Type} (P : α → Prop) [DecidablePred P] (g : α → β) : ∀ l : List α, l.filterMap (fun i => if P i then some (g i) else none) = (l.filter fun i => decide (P i)).map g
  | [] => rfl
  | a :: l => by
    rw [List.filterMap_cons, List.filter_cons, fm_if P g l]
    by_cases h : P a
    · rw [if_pos h, decide_eq_true h]
      rfl
    · rw [if_neg h, decide_eq_false h]
      rfl
theorem fm_get {α β : Type} (g : α → Option β) : ∀ l : List α, (List.range l.length).filterMap (fun i => l[i]?.bind g) = l.filterMap g
  | [] => rfl
  | a :: l => by
    rw [List.length_cons, List.range_succ_eq_map, List.filterMap_cons, List.filterMap_cons, List.filterMap_map]
    have e : ((fun i => (a :: l)[i]?.bind g) ∘ Nat.succ) = fun i => l[i]?.bind g := by
      funext i
      simp
    rw [e, fm_get g l]
    rfl
theorem fm_get' {α β : Type} (g : α → Option β) {l : List α} {n : Nat} (h : n = l.length) : (List.range n).filterMap (fun i => l[i]?.bind g) = l.filterMap g := by
  subst h
  exact fm_get g l
theorem ats_flat {H : Hp} : ∀ {dss : List (List D)} {xss : List (List V)}, xss.length = dss.length → (∀ (j : Nat) (xs : List V), xss[j]? = some xs → Ats H (dss[j]?.getD []) xs) → Ats H dss.flatten xss.flatten
  | [], [], _, _ => Ats.nil
  | d :: dss, xs :: xss, hl, h => by
    rw [List.flatten_cons, List.flatten_cons]
    exact Ats.app (h 0 xs rfl) (ats_flat (by simpa using hl) fun j ys hj => by simpa using h (j + 1) ys (by simpa using hj))
  | [], _ :: _, hl, _ => by simp at hl
  | _ :: _, [], hl, _ => by simp at hl
theorem grow_length (n : Nat) : ∀ ps : List (List Int), (growM n ps).length ≤ ps.length * n
  | [] => by simp [growM]
  | p :: ps => by
    have := grow_length n ps
    have h2 := hear_length n p
    unfold growM at this ⊢
    rw [List.map_cons, List.flatten_cons, List.length_append, List.length_map, List.length_cons, Nat.add_mul]
    omega
theorem lvl_length (n : Nat) : ∀ k : Nat, (lvlM n k).length ≤ n ^ k
  | 0 => by rw [lvlM]; exact Nat.le_refl _
  | k + 1 => by
    rw [lvlM]
    refine Nat.le_trans (grow_length n _) ?_
    rw [Nat.pow_succ]
    exact Nat.mul_le_mul_right n (lvl_length n k)
theorem lvl_small {n k : Nat} (hn : n ≤ 10) (hk : k ≤ 2) : (lvlM n k).length ≤ 100 := by
  refine Nat.le_trans (lvl_length n k) (Nat.le_trans (Nat.pow_le_pow_left hn k) ?_)
  exact Nat.le_trans (Nat.pow_le_pow_right (by decide) hk) (by decide)
theorem paths_length {n k : Nat} (hn : n ≤ 10) (hk : k ≤ 3) : (pathsM n k).length ≤ 100 := by
  unfold pathsM
  exact Nat.le_trans (List.length_filter_le _ _) (lvl_small hn (by omega))
theorem hear_fm (n : Nat) (p : List Int) : (List.range n).filterMap (fun i : Nat => if (i : Int) ∉ p then some (NestedKey.num (i : Int)) else none) = (hear n p).map .num := by
  rw [fm_if (fun i : Nat => (i : Int) ∉ p) (fun i : Nat => NestedKey.num (i : Int))]
  unfold hear
  rw [List.filter_map, List.map_map]
  rfl
theorem hear_fm2 (n : Nat) (p : List Int) : (List.range n).filterMap (fun i : Nat => if (i : Int) ∉ p then some (pk (p ++ [(i : Int)])) else none) = (hear n p).map fun h => pk (p ++ [h]) := by
  rw [fm_if (fun i : Nat => (i : Int) ∉ p) (fun i : Nat => pk (p ++ [(i : Int)]))]
  unfold hear
  rw [List.filter_map, List.map_map]
  rfl
theorem dec_int {i j : Int} : decide (V.int i = V.int j) = decide (i = j) := decide_eq_decide.mpr ⟨fun h => by injection h, fun h => by rw [h]⟩
theorem lvl_flat (n i : Nat) : ((lvlM n i).map fun p => (hear n p).map fun h => pk (p ++ [h])).flatten = (lvlM n (i + 1)).map pk := by
  rw [lvlM, growM, List.map_flatten, List.map_map]
  congr 1
  refine List.map_congr_left fun p _ => ?_
  show _ = List.map pk (List.map _ _)
  rw [List.map_map]
  rfl
theorem map_get {α β : Type} (f : α → List β) : ∀ l : List α, (List.range l.length).map (fun i => (l[i]?.map f).getD []) = l.map f
  | [] => rfl
  | a :: l => by
    rw [List.length_cons, List.range_succ_eq_map, List.map_cons, List.map_cons, List.map_map]
    have e : ((fun i => ((a :: l)[i]?.map f).getD []) ∘ Nat.succ) = fun i => (l[i]?.map f).getD [] := by
      funext i
      simp
    rw [e, map_get f l]
    rfl
theorem flat_len {α : Type} {c : Nat} : ∀ {l : List (List α)}, (∀ x ∈ l, x.length ≤ c) → l.flatten.length ≤ l.length * c
  | [], _ => by simp
  | a :: l, h => by
    have h1 := h a (by simp)
    have h2 := flat_len (l := l) fun x hx => h x (by simp [hx])
    rw [List.flatten_cons, List.length_append, List.length_cons, Nat.add_mul]
    omega
def lastM (p : List Int) : Int := p.getLast?.getD 0
theorem at_lastM {p : List Int} (h : 1 ≤ p.length) : atI (p.map V.int) (-1) = some (.int (lastM p)) := by
  have hne : p ≠ [] := fun e => by rw [e] at h; exact absurd h (by decide)
  have e := List.dropLast_concat_getLast hne
  rw [← e, List.map_append]
  unfold lastM
  rw [List.getLast?_concat]
  exact atI_last _ _
/-! ### the arrangements that come -/
def pmGo (n k : Nat) : Nat → List Nat × List Nat → List (List Nat × List Nat)
  | 0, _ => []
  | f + 1, p => p :: match nextP n k p.1 p.2 with
    | none => []
    | some q => pmGo n k f q
def pmSt (n k : Nat) : List (List Nat × List Nat) := pmGo n k 100 (List.range n, (List.range k).map fun i => n - i)
def pmCheck (n k : Nat) (st : List (List Nat × List Nat)) : Bool :=
  decide (st.take 1 = [(List.range n, (List.range k).map fun i => n - i)]) &&
  ((List.range st.length).all fun j => match st[j]? with
    | some p => decide (nextP n k p.1 p.2 = st[j + 1]?)
    | none => true) &&
  (st.all fun p => decide (p.1.length = n) && decide (p.2.length = k) && p.1.all fun x => decide (x < n))
theorem pmRun_of {n k : Nat} {st : List (List Nat × List Nat)} (h : pmCheck n k st = true) : PmRun n k st := by
  unfold pmCheck at h
  rw [Bool.and_eq_true, Bool.and_eq_true] at h
  obtain ⟨⟨h1, h2⟩, h3⟩ := h
  refine ⟨?_, fun j p hp => ?_, fun p hp => ?_⟩
  · have h1 := of_decide_eq_true h1
    cases st with
    | nil => simp at h1
    | cons a r =>
      simp at h1
      exact ⟨r, by rw [h1]⟩
  · have hj := (List.getElem?_eq_some_iff.mp hp).1
    have q := List.all_eq_true.mp h2 j (List.mem_range.mpr hj)
    rw [hp] at q
    exact of_decide_eq_true q
  · have q := List.all_eq_true.mp h3 p hp
    rw [Bool.and_eq_true, Bool.and_eq_true] at q
    exact ⟨of_decide_eq_true q.1.1, of_decide_eq_true q.1.2, fun x hx => of_decide_eq_true (List.all_eq_true.mp q.2 x hx)⟩
theorem pm_all : ∀ n : Nat, n < 10 → ∀ k : Nat, k < 3 → k ≤ n → pmCheck n k (pmSt n k) = true := by decide +kernel
theorem pm_lvl : ∀ n : Nat, n < 11 → ∀ k : Nat, k < 3 → k + 2 ≤ n → (pmList 1 k (pmSt (n - 1) k)).map (fun l => 0 :: l) = lvlM n k := by decide +kernel
def allPM (n m : Nat) : List (List Int) := ((List.range (min (m + 1) (n - 1))).map (lvlM n)).flatten
theorem mem_all {n m : Nat} (hn : 2 ≤ n) {p : List Int} : p ∈ allPM n m ↔ IsP n p ∧ p.length ≤ m + 1 ∧ p.length ≤ n - 1 := by
  unfold allPM
  rw [List.mem_flatten]
  refine ⟨fun ⟨l, hl, hp⟩ => ?_, fun ⟨h1, h2, h3⟩ => ?_⟩
  · obtain ⟨k, hk, rfl⟩ := List.mem_map.mp hl
    have hk := List.mem_range.mp hk
    obtain ⟨a, b⟩ := (mem_lvl (by omega)).mp hp
    exact ⟨a, by omega, by omega⟩
  · have := h1.pos
    exact ⟨_, List.mem_map.mpr ⟨p.length - 1, List.mem_range.mpr (by omega), rfl⟩, (mem_lvl (by omega)).mpr ⟨h1, by omega⟩⟩
theorem all_small {n m : Nat} (hn : n ≤ 10) (hm : m ≤ 2) : (allPM n m).length ≤ 300 := by
  unfold allPM
  have go : ∀ j : Nat, j ≤ 3 → (((List.range j).map (lvlM n)).flatten).length ≤ 100 * j := by
    intro j
    induction j with
    | zero => intro _; simp
    | succ j ih =>
      intro hj
      have := ih (by omega)
      have := lvl_small (n := n) (k := j) hn (by omega)
      rw [List.range_succ, List.map_append, List.flatten_append, List.length_append]
      have e : (List.map (lvlM n) [j]).flatten = lvlM n j := by simp
      rw [e]
      omega
  have := go (min (m + 1) (n - 1)) (by omega)
  omega
section
variable {P : Program} {w : World} {K : PySem.W.Frag} {mg : Str → Option Value} {base : Heap}
/-- nothing, a text, a tuple, a list -/
def OddV (H : Hp) (v : V) : Prop := v = .non ∨ (∃ z, v = .str z) ∨ (∃ a xs, v = .ref a ∧ H a = some (.tup xs)) ∨ ∃ a xs, v = .ref a ∧ H a = some (.lst xs)
/-- is v a whole number from l to h -/
def WhB (K : PySem.W.Frag) (H : Hp) (v : V) (l h : Int) (b : Bool) : Prop :=
  (∃ i, v = .int i ∧ b = (decide (l ≤ i) && decide (i ≤ h))) ∨ ((∃ x, v = .bl x) ∧ b = false) ∨ (OddV H v ∧ b = false)
theorem WhB.le {K : PySem.W.Frag} {H H' : Hp} {v : V} {l h : Int} {b : Bool} (w : WhB K H v l h b) (e : Le H H') : WhB K H' v l h b := by
  rcases w with w | w | ⟨w, hb⟩
  · exact .inl w
  · exact .inr (.inl w)
  · refine .inr (.inr ⟨?_, hb⟩)
    rcases w with w | w | ⟨a, xs, e1, e2⟩ | ⟨a, xs, e1, e2⟩
    · exact .inl w
    · exact .inr (.inl w)
    · exact .inr (.inr (.inl ⟨a, xs, e1, e.tup e2⟩))
    · exact .inr (.inr (.inr ⟨a, xs, e1, e.lst e2⟩))
theorem OddV.ty {K : PySem.W.Frag} {H : Hp} {v : V} (w : OddV H v) : ∃ t, TyX K H v t ∧ PySem.W.kitOne K t (.type "int") = some false := by
  rcases w with rfl | ⟨z, rfl⟩ | ⟨a, xs, rfl, e⟩ | ⟨a, xs, rfl, e⟩
  · exact ⟨_, .base .non, kit_ty (a := "NoneType") (b := "int") (r := false) (by decide +kernel)⟩
  · exact ⟨_, .base (.str z), kit_ty (a := "str") (b := "int") (r := false) (by decide +kernel)⟩
  · exact ⟨_, .base (.tup e), kit_ty (a := "tuple") (b := "int") (r := false) (by decide +kernel)⟩
  · exact ⟨_, .base (.lst e), kit_ty (a := "list") (b := "int") (r := false) (by decide +kernel)⟩
def spWholeX (K : PySem.W.Frag) : Sp := fun vs H Q _ => ∃ (v : V) (l h : Int) (b : Bool), vs = [v, .int l, .int h] ∧ WhB K H v l h b ∧ Q (.bl b) H
theorem ty_int {K : PySem.W.Frag} {H : Hp} (i : Int) : ∃ t, TyX K H (.int i) t ∧ PySem.W.kitOne K t (.type "int") = some true ∧ PySem.W.kitOne K t (.type "bool") = some false :=
  ⟨_, .base (.int i), kit_ty (a := "int") (b := "int") (r := true) (by decide +kernel), kit_ty (a := "int") (b := "bool") (r := false) (by decide +kernel)⟩
theorem ty_bool {K : PySem.W.Frag} {H : Hp} (i : Bool) : ∃ t, TyX K H (.bl i) t ∧ PySem.W.kitOne K t (.type "int") = some true ∧ PySem.W.kitOne K t (.type "bool") = some true :=
  ⟨_, .base (.bl i), kit_ty (a := "bool") (b := "int") (r := true) (by decide +kernel), kit_ty (a := "bool") (b := "bool") (r := true) (by decide +kernel)⟩
abbrev s_is_whole : Stmt := top 11
theorem sc_is_whole : FnScope ["value", "low", "high"] ["value", "low", "high"] (defScope s_is_whole) := ⟨rfl, rfl, rfl, by decide +kernel, rfl, by decide +kernel, by decide +kernel⟩
theorem ok_is_whole {f : Addr} {fd : FuncData} (F : Fun K "is_whole" "is_whole" s_is_whole f fd) (T : Bt mg) : FnOk P w K mg base CX0 1 f fd ["value", "low", "high"] (spWholeX K) := by
  refine F.ok sc_is_whole (fun vs H Q E h => ?_) (fun cdv A outer s H vs Q E hr h => ?_)
  · obtain ⟨v, l, h, b, rfl, _⟩ := h
    rfl
  · obtain ⟨v, l, h, b, rfl, hb, q⟩ := h
    refine ⟨_, (pss_one (ps_ret (pe_and (pe_callB (isiK (K := K) rfl) (by rfl) T.b_isinstance bb_isinstance (pa_cons (pv 0) (pa_cons (pe_bltn (v := .ty "int") (by rfl) T.b_int bb_int rfl) pa_nil))) (pe_and (pe_not (pe_callB (isiK (K := K) rfl) (by rfl) T.b_isinstance bb_isinstance (pa_cons (pv 0) (pa_cons (pe_bltn (v := .ty "bool") (by rfl) T.b_bool bb_bool rfl) pa_nil)))) (pe_one (pe_chain op_le op_le (pv 1) (pv 0) (pv 2))))))), ?_⟩
    walk_at "rg"
    rcases hb with ⟨i, rfl, rfl⟩ | ⟨⟨x, rfl⟩, rfl⟩ | ⟨ho, rfl⟩
    · obtain ⟨t, ht, hi, hb⟩ := ty_int (K := K) (H := H) i
      refine ⟨_, _, t, _, _, rfl, .ty "int", ht, hi, _, rfl, iteT ⟨_, _, t, _, _, rfl, .ty "bool", ht, hb, _, rfl, iteT ⟨_, rfl, ite2 (fun hc => ?_) (fun hc => ?_)⟩⟩⟩
      · have hc := of_decide_eq_true hc
        rw [decide_eq_true hc] at q
        exact ⟨_, rfl, q⟩
      · have hc : ¬ l ≤ i := fun z => hc (decide_eq_true z)
        rw [decide_eq_false hc] at q
        exact q
    · obtain ⟨t, ht, hi, hb⟩ := ty_bool (K := K) (H := H) x
      exact ⟨_, _, t, _, _, rfl, .ty "int", ht, hi, _, rfl, iteT ⟨_, _, t, _, _, rfl, .ty "bool", ht, hb, _, rfl, iteF q⟩⟩
    · obtain ⟨t, ht, hk⟩ := ho.ty (K := K)
      exact ⟨_, _, t, _, _, rfl, .ty "int", ht, hk, _, rfl, iteF q⟩
/-- a table is asked: nothing comes of a good one, NoTable (at C) of any other -/
def spCheckX (K : PySem.W.Frag) (C : Addr) : Sp := fun vs H Q E => ∃ (v1 v2 : V) (b1 b2 : Bool), vs = [v1, v2] ∧ WhB K H v1 2 10 b1 ∧ WhB K H v2 0 2 b2 ∧ ((b1 && b2) = true → Q .non H) ∧ ((b1 && b2) = false → E (.ref C) none H)
abbrev s_check_table : Stmt := top 16
theorem sc_check_table : FnScope ["hands", "most"] ["hands", "most"] (defScope s_check_table) := ⟨rfl, rfl, rfl, by decide +kernel, rfl, by decide +kernel, by decide +kernel⟩
theorem ok_check_table {f f1 C : Addr} {fd fd1 : FuncData} (F : Fun K "check_table" "check_table" s_check_table f fd) (T : Bt mg) (x_NoTable : ExX K mg "NoTable" C)
    (c_is_whole : Cal P w K mg base CX0 1 "is_whole" ["value", "low", "high"] (spWholeX K) f1 fd1) : FnOk P w K mg base (L2.CX P w) 2 f fd ["hands", "most"] (spCheckX K C) := by
  refine F.okX sc_check_table (fun vs H Q E h => ?_) (fun cdv A outer s H vs Q E hr h => ?_)
  · obtain ⟨n, m, _, _, rfl, _⟩ := h
    rfl
  · obtain ⟨v1, v2, b1, b2, rfl, h1, h2, q1, q2⟩ := h
    refine ⟨_, (pss_cons (ps_if (pt_not (pt_val (pe_own c_is_whole (hr.mono (by omega)) rfl (pa_cons (pv 0) (pa_cons pe_int (pa_cons pe_int pa_nil))))))
          (pss_one (ps_raise rfl (takes_of rfl rfl rfl rfl) (pmk_own PySem.F.excBase_ValueError x_NoTable.q x_NoTable.g x_NoTable.k (raises_own x_NoTable.b x_NoTable.t) rfl)))
          pss_nil)
        (pss_one (ps_if (pt_not (pt_val (pe_own c_is_whole (hr.mono (by omega)) rfl (pa_cons (pv 1) (pa_cons pe_int (pa_cons pe_int pa_nil))))))
          (pss_one (ps_raise rfl (takes_of rfl rfl rfl rfl) (pmk_own PySem.F.excBase_ValueError x_NoTable.q x_NoTable.g x_NoTable.k (raises_own x_NoTable.b x_NoTable.t) rfl)))
          pss_nil))), ?_⟩
    walk_at "rg"
    refine ⟨v1, 2, 10, b1, rfl, h1, b1, rfl, ?_⟩
    cases b1 with
    | false => exact iteT (q2 rfl)
    | true =>
      refine iteF ⟨v2, 0, 2, b2, rfl, h2, b2, rfl, ?_⟩
      cases b2 with
      | false => exact iteT (q2 rfl)
      | true => exact iteF (q1 rfl)
/-- v1, v2 are no table's numbers -/
def BadT (K : PySem.W.Frag) (H : Hp) (v1 v2 : V) : Prop := ∃ b1 b2, WhB K H v1 2 10 b1 ∧ WhB K H v2 0 2 b2 ∧ (b1 && b2) = false
theorem BadT.le {K : PySem.W.Frag} {H H' : Hp} {v1 v2 : V} (b : BadT K H v1 v2) (e : Le H H') : BadT K H' v1 v2 := let ⟨b1, b2, h1, h2, h3⟩ := b; ⟨b1, b2, h1.le e, h2.le e, h3⟩
theorem BadT.check {K : PySem.W.Frag} {H : Hp} {v1 v2 : V} {C : Addr} {Q : VK} {E : XK} (b : BadT K H v1 v2) (h : E (.ref C) none H) : spCheckX K C [v1, v2] H Q E :=
  let ⟨b1, b2, h1, h2, h3⟩ := b; ⟨v1, v2, b1, b2, rfl, h1, h2, fun z => absurd (z.symm.trans h3) (by decide), fun _ => h⟩
def spBad2 (K : PySem.W.Frag) (C : Addr) : Sp := fun vs H _ E => ∃ (v1 v2 : V), vs = [v1, v2] ∧ BadT K H v1 v2 ∧ E (.ref C) none H
def spBad5 (K : PySem.W.Frag) (C : Addr) : Sp := fun vs H _ E => ∃ (v1 v2 v3 v4 v5 : V), vs = [v1, v2, v3, v4, v5] ∧ BadT K H v1 v2 ∧ ∀ H', Le H H' → E (.ref C) none H'
def spBadI (K : PySem.W.Frag) (C : Addr) : Sp := fun vs H _ E => ∃ (x v1 v2 v3 v4 : V), vs = [x, v1, v2, v3, v4] ∧ BadT K H v1 v2 ∧ E (.ref C) none H
abbrev s_parting : Stmt := top 31
theorem sc_parting : FnScope ["hands", "most", "many", "liars", "lies", "path", "hearer"] ["hands", "most"] (defScope s_parting) := ⟨rfl, rfl, rfl, by decide +kernel, rfl, by decide +kernel, by decide +kernel⟩
theorem ok_parting {f f1 C : Addr} {fd fd1 : FuncData} (F : Fun K "parting" "parting" s_parting f fd) (T : Bt mg)
    (cx_check_table : Cal P w K mg base (L2.CX P w) 2 "check_table" ["hands", "most"] (spCheckX K C) f1 fd1) : FnOk P w K mg base (L2.CX P w) 3 f fd ["hands", "most"] (spBad2 K C) := by
  refine F.okX sc_parting (fun vs H Q E h => ?_) (fun cdv A outer s H vs Q E hr h => ?_)
  · obtain ⟨n, m, rfl, _⟩ := h
    rfl
  · obtain ⟨v1, v2, rfl, hb, q⟩ := h
    refine ⟨_, (pss_cons (ps_expr (pe_ownS cx_check_table (hr.mono (by omega)) rfl (takes_of rfl rfl rfl rfl) (pa_cons (pv 0) (pa_cons (pv 1) pa_nil)))) pss_dead), ?_⟩
    walk_at "rg"
    exact hb.check q
abbrev s_Table___init__ : Stmt := inClass (top 28) 0
theorem sc_Table___init__ : FnScope ["self", "hands", "most", "sign", "liars", "hand"] ["self", "hands", "most", "sign", "liars"] (defScope s_Table___init__) := ⟨rfl, rfl, rfl, by decide +kernel, rfl, by decide +kernel, by decide +kernel⟩
theorem ok_Table___init__ {f f1 C : Addr} {fd fd1 : FuncData} (F : Fun K "__init__" "Table.__init__" s_Table___init__ f fd) (T : Bt mg)
    (cx_check_table : Cal P w K mg base (L2.CX P w) 2 "check_table" ["hands", "most"] (spCheckX K C) f1 fd1) : FnOk P w K mg base (L2.CX P w) 3 f fd ["self", "hands", "most", "sign", "liars"] (spBadI K C) := by
  refine F.okX sc_Table___init__ (fun vs H Q E h => ?_) (fun cdv A outer s H vs Q E hr h => ?_)
  · obtain ⟨x, v1, v2, v3, v4, rfl, _⟩ := h
    rfl
  · obtain ⟨x, v1, v2, v3, v4, rfl, hb, q⟩ := h
    refine ⟨_, (pss_cons (ps_expr (pe_ownS cx_check_table (hr.mono (by omega)) rfl (takes_of rfl rfl rfl rfl) (pa_cons (pv 1) (pa_cons (pv 2) pa_nil)))) pss_dead), ?_⟩
    walk_at "rg"
    exact hb.check q
abbrev s_parts : Stmt := top 30
theorem sc_parts : FnScope ["hands", "most", "sign", "liars", "lies", "table", "rounds", "size", "signs", "pair", "hand"] ["hands", "most", "sign", "liars", "lies"] (defScope s_parts) := ⟨rfl, rfl, rfl, by decide +kernel, rfl, by decide +kernel, by decide +kernel⟩
theorem ok_parts {f f1 C CT : Addr} {fd fd1 : FuncData} (F : Fun K "parts" "parts" s_parts f fd) (T : Bt mg)
    (mk_Table : Mk K CT f1) (fx_Table : FnOk P w K mg base (L2.CX P w) 3 f1 fd1 ["self", "hands", "most", "sign", "liars"] (spBadI K C)) (g_Table : mg "Table" = some (.ref CT)) (bd_Table : Binds K fd1 ["self", "hands", "most", "sign", "liars"] []) : FnOk P w K mg base (L2.CX P w) 5 f fd ["hands", "most", "sign", "liars", "lies"] (spBad5 K C) := by
  refine F.okX sc_parts (fun vs H Q E h => ?_) (fun cdv A outer s H vs Q E hr h => ?_)
  · obtain ⟨v1, v2, v3, v4, v5, rfl, _⟩ := h
    rfl
  · obtain ⟨v1, v2, v3, v4, v5, rfl, hb, q⟩ := h
    refine ⟨_, (pss_cons (ps_set (i := 5) sc_parts.nd rfl (Or.inr rfl) (pe_makeS mk_Table fx_Table (hr.mono (by omega)) rfl g_Table bd_Table (takes_of rfl rfl rfl rfl) (pa_cons (pv 0) (pa_cons (pv 1) (pa_cons (pv 2) (pa_cons (pv 3) pa_nil)))))) pss_dead), ?_⟩
    walk_at "rg"
    intro x dx hx hdx hne
    have l1 : Le H (L2.upd (L2.upd H dx (.own x)) x (.ins CT dx [])) := (Le.new hdx).mut hx
    exact ⟨_, v1, v2, v3, v4, rfl, hb.le l1, q _ l1⟩
def spPPathsX (K : PySem.W.Frag) (C : Addr) : Sp := fun vs H Q E => ∃ (v1 v2 : V), vs = [v1, v2] ∧ ((∃ n m : Nat, v1 = .int n ∧ v2 = .int m ∧ 2 ≤ n ∧ n ≤ 10 ∧ m ≤ 2 ∧ ∀ d H' ys, H d = none → Le H H' → H' d = some (.lst ys) → Ats H' ((allPM n m).map pk) ys → Q (.ref d) H') ∨ (BadT K H v1 v2 ∧ E (.ref C) none H))
abbrev s_paths : Stmt := top 23
abbrev n_paths : List Str := ["hands", "most", "size", "rest"]
theorem sc_paths : FnScope ["hands", "most", "size", "rest"] ["hands", "most"] (defScope s_paths) := ⟨rfl, rfl, rfl, by decide +kernel, rfl, by decide +kernel, by decide +kernel⟩
theorem ok_paths {f f1 C : Addr} {fd fd1 : FuncData} (F : Fun K "paths" "paths" s_paths f fd) (T : Bt mg) (TP : mg "permutations" = some (.type PM))
    (cx_check_table : Cal P w K mg base (L2.CX P w) 2 "check_table" ["hands", "most"] (spCheckX K C) f1 fd1) : FnOk P w K mg base (L2.CX P w) 3 f fd ["hands", "most"] (spPPathsX K C) := by
  refine F.okX sc_paths (fun vs H Q E h => ?_) (fun cdv A outer s H vs Q E hr h => ?_)
  · obtain ⟨n, m, rfl, _⟩ := h
    rfl
  · obtain ⟨v1, v2, rfl, h⟩ := h
    refine ⟨_, (pss_cons (ps_expr (pe_ownS cx_check_table (hr.mono (by omega)) rfl (takes_of rfl rfl rfl rfl) (pa_cons (pv 0) (pa_cons (pv 1) pa_nil))))
        (pss_one (ps_ret (pe_lc2 (own := [("size", 2), ("rest", 3)]) (vs1 := [3]) rfl sc_paths.nd (pi_range1 (by rfl) T.b_range (pa_cons (pe_callB (call_min2 rfl) (by rfl) T.b_min bb_min (pa_cons (pe_op op_add (pv 1) pe_int) (pa_cons (pe_op op_sub (pv 0) pe_int) pa_nil))) pa_nil)) (blkOk_by (N := n_paths) (sc := defScope s_paths) (own := [("size", 2), ("rest", 3)]) (by decide +kernel)) (by decide) (fun _ _ _ _ _ => (pg_name (i := 2) sc_paths.nd rfl (Or.inl rfl))) (fun _ _ _ _ _ => pts_nil) (fun _ _ _ _ _ => (pi_perm rfl (by rfl) TP (by rfl) T.b_range pe_int (pv 0) (pv 2))) (fun _ _ _ _ _ => (pg_name (i := 3) sc_paths.nd rfl (Or.inl rfl))) (fun _ _ _ _ _ => pts_nil) (fun _ _ _ _ _ => (pe_tup (pa_cons pe_int (pa_starK (K := K) rfl (pv 3) pa_nil)))))))), ?_⟩
    walk_at "rg"
    rcases h with ⟨n, m, rfl, rfl, hn, hn2, hm, q⟩ | ⟨hb, q⟩
    · refine ⟨_, _, true, true, rfl, .inl ⟨n, rfl, by rw [decide_eq_true (by omega), decide_eq_true (by omega)]; rfl⟩, .inl ⟨m, rfl, by rw [decide_eq_true (by omega), decide_eq_true (by omega)]; rfl⟩, fun _ => ?_, fun z => nomatch z⟩
      refine ⟨m, rfl, n, rfl, by split <;> omega, by split <;> omega, fun D1 hD1 => ?_⟩
      have hcnt : (if (n : Int) - 1 < (m : Int) + 1 then (n : Int) - 1 else (m : Int) + 1).toNat = min (m + 1) (n - 1) := by split <;> omega
      rw [hcnt]
      refine lc2_data walk_range hD1 (fun k => (lvlM n k).map pk) ?_ (fun _ _ => True.intro) (fun i x H' H'' hi l hy In Nk kI kN => ?_) (fun H' xs l hx ha => ?_)
      · have e : ((List.range (min (m + 1) (n - 1))).map fun k => (lvlM n k).map pk).flatten = (allPM n m).map pk := by
          unfold allPM
          rw [List.map_flatten, List.map_map]
          rfl
        rw [e, List.length_map]
        have := all_small hn2 hm
        omega
      · obtain ⟨rfl, rfl⟩ := hy
        refine ⟨rfl, ?_⟩
        have hi2 : i < 3 := by omega
        have hin : i + 2 ≤ n := by omega
        walk_at "rg"
        have hL := pm_lvl n (by omega) i hi2 hin
        have hnn : ((n : Int) - 1).toNat = n - 1 := by omega
        rw [hnn]
        refine ⟨RgOk.of_le (by decide) (by omega) (by decide) (by omega), i, rfl, by omega, by omega, _, pmRun_of (pm_all (n - 1) (by omega) i hi2 (by omega)), ?_⟩
        refine kI _ _ H'' _ _ _ (fun j => (pmList 1 i (pmSt (n - 1) i))[j]?.bind fun l => some (pk (0 :: l))) walk_p (.refl _) ?_ (fun _ _ _ => True.intro) (fun j y H5 H6 hj l5 l5' hy Yk Nk1 kY kN1 => ?_)
        · rw [fm_get, ← hL, List.map_map, List.filterMap_eq_map']
          rfl
        · obtain ⟨T', l, rfl, hT', rfl, hl⟩ := hy
          refine ⟨rfl, ?_⟩
          rw [hl] at kY
          walk_at "rg"
          refine ⟨_, .inl (.of upd_same), ?_, fun b hb => kY _ _ _ ((Le.new hT').trans (.new hb)) rfl (pk_at (p := 0 :: l) upd_same)⟩
          have hm2 : (0 :: l) ∈ lvlM n i := by
            rw [← hL]
            exact List.mem_map.mpr ⟨l, List.mem_of_getElem? hl, rfl⟩
          have hl2 := ((mem_lvl (by omega)).mp hm2).2
          rw [List.length_cons] at hl2
          rw [List.length_map, sizeLine_eq]
          omega
      · refine q D1 H' xs hD1 l hx ?_
        have e : ((List.range (min (m + 1) (n - 1))).map fun k => (lvlM n k).map pk).flatten = (allPM n m).map pk := by
          unfold allPM
          rw [List.map_flatten, List.map_map]
          rfl
        rw [← e]
        exact ha
    · exact hb.check q
def spRefused (K : PySem.W.Frag) : Sp := fun vs H Q _ => ∃ (way : Int) (v1 v2 : V), vs = [.int way, v1, v2] ∧ BadT K H v1 v2 ∧ ∀ H', Le H H' → Q (.bl true) H'
abbrev s_law_refused : Stmt := top 37
theorem sc_law_refused : FnScope ["_law_way", "_law_hands", "_law_most", "e", "_law_other"] ["_law_way", "_law_hands", "_law_most"] (defScope s_law_refused) := ⟨rfl, rfl, rfl, by decide +kernel, rfl, by decide +kernel, by decide +kernel⟩
theorem ok_law_refused {f f1 f2 f3 f4 C CE CT C1 C2 C3 C4 C5 : Addr} {fd fd1 fd2 fd3 fd4 : FuncData} (F : Fun K "_law_refused" "_law_refused" s_law_refused f fd) (T : Bt mg)
    (cx_paths : Cal P w K mg base (L2.CX P w) 3 "paths" ["hands", "most"] (spPPathsX K C) f1 fd1) (cx_parting : Cal P w K mg base (L2.CX P w) 3 "parting" ["hands", "most"] (spBad2 K C) f2 fd2)
    (cx_parts : Cal P w K mg base (L2.CX P w) 5 "parts" ["hands", "most", "sign", "liars", "lies"] (spBad5 K C) f3 fd3)
    (mk_Table : Mk K CT f4) (fx_Table : FnOk P w K mg base (L2.CX P w) 3 f4 fd4 ["self", "hands", "most", "sign", "liars"] (spBadI K C)) (g_Table : mg "Table" = some (.ref CT)) (bd_Table : Binds K fd4 ["self", "hands", "most", "sign", "liars"] [])
    (x_NoTable : ExX K mg "NoTable" C) (x_TableError : ExX K mg "TableError" CE) (x_NoHand : ExX K mg "NoHand" C1) (x_NoSaying : ExX K mg "NoSaying" C2) (x_NoSign : ExX K mg "NoSign" C3) (x_NotOver : ExX K mg "NotOver" C4) (x_Over : ExX K mg "Over" C5)
    (ec : ExcC K C) (em : PySem.W.exmOne K (.ref C) (.ref CE) = some true) (k1 : PySem.W.kitOne K (.ref C) (.ref C) = some true) (k2 : PySem.W.kitOne K (.ref C) (.type "ValueError") = some true)
    (k3 : PySem.W.kitAny K (.ref C) [.ref C1, .ref C2, .ref C3, .ref C4, .ref C5] = some false) (bv : mg "ValueError" = none) : FnOk P w K mg base CX0 6 f fd ["_law_way", "_law_hands", "_law_most"] (spRefused K) := by
  refine F.ok sc_law_refused (fun vs H Q E h => ?_) (fun cdv A outer s H vs Q E hr h => ?_)
  · obtain ⟨way, v1, v2, rfl, _⟩ := h
    rfl
  · obtain ⟨way, v1, v2, rfl, hb, q⟩ := h
    have hu := hr.units
    refine ⟨_, (pss_cons (ps_try_as (i := 3) rfl rfl sc_law_refused.nd rfl rfl ⟨rfl, by decide, .inl x_TableError.g⟩ takes0 (fun W pn xe tk _ =>
            (pss_one (ps_if (pt_cmpR op_eq (pv 0) pe_int (nomark _))
              (pss_one (ps_expr (pe_ownS cx_paths (hr.mono (by omega)) rfl tk (pa_cons (pv 1) (pa_cons (pv 2) pa_nil)))))
              (pss_one (ps_if (pt_cmpR op_eq (pv 0) pe_int (nomark _))
                  (pss_one (ps_expr (pe_ownS cx_parting (hr.mono (by omega)) rfl tk (pa_cons (pv 1) (pa_cons (pv 2) pa_nil)))))
                  (pss_one (ps_if (pt_cmpR op_eq (pv 0) pe_int (nomark _))
                      (pss_one (ps_expr (pe_ownS cx_parts (hr.mono (by omega)) rfl tk (pa_cons (pv 1) (pa_cons (pv 2) (pa_cons pe_str (pa_cons (pe_lst (pa_cons pe_int pa_nil)) (pa_cons pe_nnew pa_nil))))))))
                      (pss_one (ps_expr (pe_makeS mk_Table fx_Table (hr.mono (by omega)) rfl g_Table bd_Table tk (pa_cons (pv 1) (pa_cons (pv 2) (pa_cons pe_int (pa_cons (pe_lst (pa_cons pe_int pa_nil)) pa_nil))))))))))))))
          (fun a oe cls d pn hz hf =>
            (pss_cons (ps_set (i := 4) sc_law_refused.nd rfl (Or.inl rfl) (pe_callB (call_isX hz hf) (by rfl) T.b_isinstance bb_isinstance (pa_cons (pv 3) (pa_cons (pe_tup (pa_cons (pe_cls (by rfl) x_NoHand) (pa_cons (pe_cls (by rfl) x_NoSaying) (pa_cons (pe_cls (by rfl) x_NoSign) (pa_cons (pe_cls (by rfl) x_NotOver) (pa_cons (pe_cls (by rfl) x_Over) pa_nil)))))) pa_nil))))
            (pss_one (ps_ret (pe_and (pe_callB (call_isX hz hf) (by rfl) T.b_isinstance bb_isinstance (pa_cons (pv 3) (pa_cons (pe_cls (by rfl) x_NoTable) pa_nil))) (pe_and (pe_callB (call_isX hz hf) (by rfl) T.b_isinstance bb_isinstance (pa_cons (pv 3) (pa_cons (pe_bltn (v := .ty "ValueError") (by rfl) bv bb_ValueError rfl) pa_nil))) (pe_one (pe_not (pv 4))))))))))
        (pss_one (ps_ret pe_bl))), ?_⟩
    walk_at "rg"
    have hp : Paired ClsV [.ref C1, .ref C2, .ref C3, .ref C4, .ref C5] [.ref C1, .ref C2, .ref C3, .ref C4, .ref C5] := .cons (.own C1) (.cons (.own C2) (.cons (.own C3) (.cons (.own C4) (.cons (.own C5) .nil))))
    have fin : ∀ (a : Addr) (H' : Hp), Le H H' → ∀ p, H' p = none → rIsX K (.ref C) none a [.ref a, .ref p] (L2.upd H' p (.tup [.ref C1, .ref C2, .ref C3, .ref C4, .ref C5])) (fun x H1 => rIsX K (.ref C) none a [.ref a, .ref C] H1 fun x_1 H1 => ∃ c, x_1 = .bl c ∧
        if c = true then rIsX K (.ref C) none a [.ref a, .ty "ValueError"] H1 (fun x_2 H1 => ∃ c, x_2 = .bl c ∧ if c = true then ∃ c, x = .bl c ∧ Q (.bl !c) H1 else Q (.bl false) H1) else Q (.bl false) H1) := fun a H' l p hpn =>
      ⟨C, rfl, rfl, ec, .inr ⟨p, _, _, false, rfl, upd_same, hp, k3, C, rfl, rfl, ec, .inl ⟨_, _, true, rfl, .own C, k1, true, rfl, iteT ⟨C, rfl, rfl, ec, .inl ⟨_, _, true, rfl, .ty "ValueError", k2, true, rfl, iteT ⟨false, rfl, q _ (l.trans (.new hpn))⟩⟩⟩⟩⟩⟩
    refine ite2 (fun _ => ?_) (fun _ => ite2 (fun _ => ?_) (fun _ => ite2 (fun _ => ?_) (fun _ => ?_)))
    · refine ⟨v1, v2, rfl, .inr ⟨hb, true, em, fun _ a ha => ?_, fun z => nomatch z⟩⟩
      walk_at "rg"
      exact fin a H (.refl H)
    · refine ⟨v1, v2, rfl, hb, true, em, fun _ a ha => ?_, fun z => nomatch z⟩
      walk_at "rg"
      exact fin a H (.refl H)
    · intro p hpn d hd hds
      have l1 : Le H (L2.upd (L2.upd H p (.lst [.int 99])) d (raw d newD)) := (Le.new hpn).trans (.new hd)
      refine ⟨v1, v2, _, _, _, rfl, hb.le l1, fun H' l' => ⟨true, em, fun _ a ha => ?_, fun z => nomatch z⟩⟩
      walk_at "rg"
      exact fin a H' (l1.trans l')
    · intro p hpn x dx hx hdx hne
      have l0 : Le H (L2.upd H p (.lst [.int 99])) := .new hpn
      have l1 : Le H (L2.upd (L2.upd (L2.upd H p (.lst [.int 99])) dx (.own x)) x (.ins CT dx [])) := (l0.trans (.new hdx)).mut (l0.back hx)
      refine ⟨_, v1, v2, _, _, rfl, hb.le l1, true, em, fun _ a ha => ?_, fun z => nomatch z⟩
      walk_at "rg"
      exact fin a _ l1
def spHear : Sp := fun vs H Q _ => ∃ (n : Nat) (p : List Int) (b : Addr), vs = [.int n, .ref b] ∧ H b = some (.tup (p.map .int)) ∧ n ≤ 100 ∧ ∀ d H', H d = none → Le H H' → H' d = some (.lst ((hear n p).map .int)) → Q (.ref d) H'
abbrev s_hearers : Stmt := top 22
abbrev n_hearers : List Str := ["hands", "path", "hand"]
theorem sc_hearers : FnScope ["hands", "path", "hand"] ["hands", "path"] (defScope s_hearers) := ⟨rfl, rfl, rfl, by decide +kernel, rfl, by decide +kernel, by decide +kernel⟩
theorem ok_hearers {f : Addr} {fd : FuncData} (F : Fun K "hearers" "hearers" s_hearers f fd) (T : Bt mg) : FnOk P w K mg base CX0 1 f fd ["hands", "path"] spHear := by
  refine F.ok sc_hearers (fun vs H Q E h => ?_) (fun cdv A outer s H vs Q E hr h => ?_)
  · obtain ⟨n, p, b, rfl, _⟩ := h
    rfl
  · obtain ⟨n, p, b, rfl, hb, hn, q⟩ := h
    refine ⟨_, (pss_one (ps_ret (pe_lc (own := [("hand", 2)]) (g := gName 2) rfl sc_hearers.nd (pi_range1 (by rfl) T.b_range (pa_cons (pv 0) pa_nil)) (blkOk_by (N := n_hearers) (sc := defScope s_hearers) (own := [("hand", 2)]) (by decide +kernel)) (fun _ _ _ _ _ => (pg_name (i := 2) sc_hearers.nd rfl (Or.inl rfl))) (fun _ _ _ _ _ => pts_one (pt_cmpR (notIn_seqK (K := K) rfl) (pv 2) (pv 1) rfl)) (fun _ _ _ _ _ => (pv 2))))), ?_⟩
    walk_at "rg"
    refine ⟨by omega, by omega, fun D hD => ?_⟩
    refine lc_data walk_range hD (by omega) (fun i : Nat => if (i : Int) ∉ p then some (.num (i : Int)) else none) (fun _ _ => True.intro) (fun i x H' H'' hi l hy Yk Nk kY kN => ?_) (fun H' ys l hys ha => ?_)
    · obtain ⟨rfl, rfl⟩ := hy
      refine ⟨rfl, ?_⟩
      walk_at "rg"
      refine ⟨b, _, rfl, .inr (.of (l.tup hb)), rfl, ints_flat p, ?_⟩
      rw [inV_ints]
      refine ⟨_, rfl, ?_⟩
      by_cases hc : (i : Int) ∈ p
      · rw [decide_eq_true hc]
        exact kN _ (.refl _) (if_neg (fun h => h hc))
      · rw [decide_eq_false hc]
        exact kY _ _ _ (.refl _) (if_pos hc) At.int
    · rw [Int.toNat_natCast, hear_fm] at ha
      rw [ha.ints] at hys
      exact q D H' hD l hys
def cell (ns : List Int) (k : Int) : Int := ns.getD k.toNat 0
def spCell (K : PySem.W.Frag) : Sp := fun vs H Q _ => ∃ (a : Addr) (ns : List Int) (k : Int), vs = [.ref a, .int k] ∧ SqL K H a (ns.map V.int) ∧ ns.length ≤ 63 ∧ 0 ≤ k ∧ Q (.int (cell ns k)) H
abbrev s_law_cell_at : Stmt := top 33
theorem sc_law_cell_at : FnScope ["_law_script", "_law_k"] ["_law_script", "_law_k"] (defScope s_law_cell_at) := ⟨rfl, rfl, rfl, by decide +kernel, rfl, by decide +kernel, by decide +kernel⟩
theorem ok_law_cell_at {f : Addr} {fd : FuncData} (F : Fun K "_law_cell_at" "_law_cell_at" s_law_cell_at f fd) (T : Bt mg) : FnOk P w K mg base CX0 1 f fd ["_law_script", "_law_k"] (spCell K) := by
  refine F.ok sc_law_cell_at (fun vs H Q E h => ?_) (fun cdv A outer s H vs Q E hr h => ?_)
  · obtain ⟨a, ns, k, rfl, _⟩ := h
    rfl
  · obtain ⟨a, ns, k, rfl, hS, hl, h0, q⟩ := h
    refine ⟨_, (pss_cons (ps_if (pt_cmpR op_lt (pv 1) (pe_callB (len_seqK (K := K) rfl) (by rfl) T.b_len bb_len (pa_cons (pv 0) pa_nil)) (nomark _))
          (pss_one (ps_ret (pe_ix (ix_listK (K := K) rfl) (pv 0) (pv 1) (fun _ _ => rfl))))
          pss_nil)
        (pss_one (ps_ret pe_int))), ?_⟩
    refine ⟨_, rfl, _, rfl, a, _, rfl, .inl hS, _, _, rfl, rfl, _, rfl, ite2 (fun hc => ?_) (fun hc => ?_)⟩
    · rw [decide_eq_true_eq, List.length_map] at hc
      have e : cell ns k = ns[k.toNat]'(by omega) := by
        unfold cell
        rw [List.getD_eq_getElem?_getD, List.getElem?_eq_getElem (by omega)]
        rfl
      refine ⟨_, rfl, _, rfl, a, _, k, .int (cell ns k), rfl, rfl, hS, at_of (j := k.toNat) (by omega) ?_, q⟩
      rw [List.getElem?_map, List.getElem?_eq_getElem (by omega), e]
      rfl
    · rw [decide_eq_true_eq, List.length_map] at hc
      have e : cell ns k = 0 := by
        unfold cell
        rw [List.getD_eq_getElem?_getD, List.getElem?_eq_none (by omega)]
        rfl
      rw [e] at q
      exact q
/-- so many hands, so many rounds -/
structure TabOk (n m : Nat) : Prop where
  n2 : 2 ≤ n
  n10 : n ≤ 10
  m2 : m ≤ 2
  n8 : m = 2 → n ≤ 8
def spTable : Sp := fun vs H Q _ => ∃ (c : Int), vs = [.int c] ∧ ∀ p H' (n m : Nat), Le H H' → H' p = some (.tup [.int n, .int m]) → TabOk n m → Q (.ref p) H'
abbrev s_law_table : Stmt := top 35
theorem sc_law_table : FnScope ["_law_cell", "_law_most"] ["_law_cell"] (defScope s_law_table) := ⟨rfl, rfl, rfl, by decide +kernel, rfl, by decide +kernel, by decide +kernel⟩
theorem tab6 : ∀ i : Nat, i < 6 → ∃ m : Nat, ([V.int 1, .int 2, .int 0, .int 1, .int 2, .int 2] : List V)[i]? = some (.int m) ∧ m ≤ 2 := by
  intro i hi
  match i, hi with
  | 0, _ => exact ⟨1, rfl, by decide⟩
  | 1, _ => exact ⟨2, rfl, by decide⟩
  | 2, _ => exact ⟨0, rfl, by decide⟩
  | 3, _ => exact ⟨1, rfl, by decide⟩
  | 4, _ => exact ⟨2, rfl, by decide⟩
  | 5, _ => exact ⟨2, rfl, by decide⟩
theorem tab3 : ∀ i : Nat, i ≤ 2 → ∃ k : Int, ([V.int 9, .int 9, .int 7] : List V)[i]? = some (.int k) ∧ 7 ≤ k ∧ k ≤ 9 ∧ (i = 2 → k = 7) := by
  intro i hi
  match i, hi with
  | 0, _ => exact ⟨9, rfl, by decide, by decide, by decide⟩
  | 1, _ => exact ⟨9, rfl, by decide, by decide, by decide⟩
  | 2, _ => exact ⟨7, rfl, by decide, by decide, by decide⟩
theorem ok_law_table {f : Addr} {fd : FuncData} (F : Fun K "_law_table" "_law_table" s_law_table f fd) (T : Bt mg) : FnOk P w K mg base CX0 1 f fd ["_law_cell"] spTable := by
  refine F.ok sc_law_table (fun vs H Q E h => ?_) (fun cdv A outer s H vs Q E hr h => ?_)
  · obtain ⟨c, rfl, _⟩ := h
    rfl
  · obtain ⟨c, rfl, q⟩ := h
    refine ⟨_, (pss_cons (ps_set (i := 1) sc_law_table.nd rfl (Or.inl rfl) (pe_ix (ix_listK (K := K) rfl) (pe_lst (pa_cons pe_int (pa_cons pe_int (pa_cons pe_int (pa_cons pe_int (pa_cons pe_int (pa_cons pe_int pa_nil))))))) (pe_op op_mod (pv 0) pe_int) (fun _ _ => rfl)))
        (pss_one (ps_ret (pe_tup (pa_cons (pe_op op_add pe_int (pe_op op_mod (pe_op op_fdiv (pv 0) pe_int) (pe_ix (ix_listK (K := K) rfl) (pe_lst (pa_cons pe_int (pa_cons pe_int (pa_cons pe_int pa_nil)))) (pv 1) (fun _ _ => rfl)))) (pa_cons (pv 1) pa_nil)))))), ?_⟩
    walk_at "rd"
    intro p1 hp1
    have c6 : 0 ≤ c % 6 ∧ c % 6 < 6 := by omega
    obtain ⟨m, hm, m2⟩ := tab6 (c % 6).toNat (by omega)
    refine ⟨p1, _, _, _, rfl, rfl, .of upd_same, at_of (by omega) hm, fun p2 hp2 => ?_⟩
    obtain ⟨k, hk, k1, k2, k3⟩ := tab3 m m2
    refine ⟨p2, _, _, _, rfl, rfl, .of upd_same, at_of (j := m) (by omega) hk, k, rfl, by omega, fun p3 hp3 => ?_⟩
    have d0 : 0 ≤ c / 6 % k := Int.emod_nonneg _ (by omega)
    have d1 : c / 6 % k < k := Int.emod_lt_of_pos _ (by omega)
    refine q p3 _ (2 + c / 6 % k).toNat m (((Le.new hp1).trans (.new hp2)).trans (.new hp3)) ?_ ⟨by omega, by omega, m2, fun e => ?_⟩
    · rw [upd_same, Int.toNat_of_nonneg (by omega)]
    · have := k3 e
      omega
def spPaths : Sp := fun vs H Q _ => ∃ (n k : Nat), vs = [.int n, .int k] ∧ 2 ≤ n ∧ n ≤ 10 ∧ 1 ≤ k ∧ k ≤ 3 ∧ ∀ d H' ys, H d = none → Le H H' → H' d = some (.lst ys) → Ats H' ((pathsM n k).map pk) ys → Q (.ref d) H'
abbrev s_law_paths : Stmt := top 36
abbrev n_law_paths : List Str := ["_law_hands", "_law_size", "_law_found", "_law_turn", "_law_path", "_law_hand"]
theorem sc_law_paths : FnScope ["_law_hands", "_law_size", "_law_found", "_law_turn", "_law_path", "_law_hand"] ["_law_hands", "_law_size"] (defScope s_law_paths) := ⟨rfl, rfl, rfl, by decide +kernel, rfl, by decide +kernel, by decide +kernel⟩
theorem ok_law_paths {f : Addr} {fd : FuncData} (F : Fun K "_law_paths" "_law_paths" s_law_paths f fd) (T : Bt mg) : FnOk P w K mg base CX0 1 f fd ["_law_hands", "_law_size"] spPaths := by
  refine F.ok sc_law_paths (fun vs H Q E h => ?_) (fun cdv A outer s H vs Q E hr h => ?_)
  · obtain ⟨n, k, rfl, _⟩ := h
    rfl
  · obtain ⟨n, k, rfl, hn2, hn10, hk1, hk3, q⟩ := h
    refine ⟨_, (pss_cons (ps_set (i := 2) sc_law_paths.nd rfl (Or.inl rfl) (pe_lst (pa_cons (pe_tup (pa_cons pe_int pa_nil)) pa_nil)))
        (pss_cons (ps_for PassesOwn.never rfl (pi_range1 (by rfl) T.b_range (pa_cons (pe_op op_sub (pe_callB (call_min2 rfl) (by rfl) T.b_min bb_min (pa_cons (pv 1) (pa_cons (pe_op op_sub (pv 0) pe_int) pa_nil))) pe_int) pa_nil)) (pg_name (i := 3) sc_law_paths.nd rfl (Or.inl rfl))
          (pss_one (ps_set (i := 2) sc_law_paths.nd rfl (Or.inl rfl) (pe_callB (sumLK (K := K) rfl rfl) (by rfl) T.b_sum bb_sum (pa_cons (pe_lc (own := [("_law_path", 4)]) (g := gName 4) rfl sc_law_paths.nd (pi_listK (K := K) rfl (pv 2)) (blkOk_by (N := n_law_paths) (sc := defScope s_law_paths) (own := [("_law_path", 4)]) (by decide +kernel)) (fun _ _ _ _ _ => (pg_name (i := 4) sc_law_paths.nd rfl (Or.inr rfl))) (fun _ _ _ _ _ => pts_nil) (fun _ _ _ _ _ => (pe_lc (own := [("_law_hand", 5)]) (g := gName 5) rfl sc_law_paths.nd (pi_range1 (by rfl) T.b_range (pa_cons (pv 0) pa_nil)) (blkOk_by (own := [("_law_hand", 5)]) (by kernel_rfl)) (fun _ _ _ _ _ => (pg_name (i := 5) sc_law_paths.nd rfl (Or.inl rfl))) (fun _ _ _ _ _ => pts_one (pt_cmpR (notIn_seqK (K := K) rfl) (pv 5) (pv 4) rfl)) (fun _ _ _ _ _ => (pe_op (catTK (K := K) rfl) (pv 4) (pe_tup (pa_cons (pv 5) pa_nil))))))) (pa_cons (pe_lst pa_nil) pa_nil))))))
        (pss_one (ps_ret (pe_lc (own := [("_law_path", 4)]) (g := gName 4) rfl sc_law_paths.nd (pi_listK (K := K) rfl (pv 2)) (blkOk_by (N := n_law_paths) (sc := defScope s_law_paths) (own := [("_law_path", 4)]) (by decide +kernel)) (fun _ _ _ _ _ => (pg_name (i := 4) sc_law_paths.nd rfl (Or.inl rfl))) (fun _ _ _ _ _ => pts_one (pt_cmpR op_eq (pe_callB (len_seqK (K := K) rfl) (by rfl) T.b_len bb_len (pa_cons (pv 4) pa_nil)) (pv 1) (nomark _))) (fun _ _ _ _ _ => (pv 4))))))), ?_⟩
    walk_at "rg"
    intro p1 hp1 p2 hp2
    refine ⟨by split <;> omega, by split <;> omega, ?_⟩
    have hcnt : ((if (n : Int) - 1 < k then (n : Int) - 1 else k) - 1).toNat = min k (n - 1) - 1 := by split <;> omega
    rw [hcnt]
    have h12 : p1 ≠ p2 := fun e => by
      subst e
      rw [upd_same] at hp2
      cases hp2
    refine for_it walk_range (fun i σ H' => ∃ (a : Addr) (v3 : Option V) (ys : List V), σ = [some (.int n), some (.int k), some (.ref a), v3, none, none] ∧ Le H H' ∧ H' a = some (.lst ys) ∧ Ats H' ((lvlM n i).map pk) ys)
      ⟨_, _, _, rfl, (Le.new hp1).trans (.new hp2), upd_same, Ats.cons (pk_at (p := [0]) (by rw [upd_ne h12]; exact upd_same)) Ats.nil⟩ (fun _ _ _ _ _ => True.intro) ?_ ?_
    · rintro i x σ H1 H2 hi ⟨a, v3, ys, rfl, l, ha, hA⟩ ⟨rfl, rfl⟩
      walk_at "rg"
      have hi2 : i ≤ 2 := by omega
      refine ⟨⟨_, .of ha⟩, fun D hD => ?_⟩
      have hyl := hA.length
      rw [List.length_map] at hyl
      have hll := lvl_small (k := i) hn10 hi2
      have hll2 := lvl_length n (i + 1)
      refine lc_lists (walk_listN rfl) hD (by omega) (fun j H' xs => Ats H' ((((lvlM n i).map fun p => (hear n p).map fun h => pk (p ++ [h]))[j]?).getD []) xs) (fun _ _ _ _ r t => r.keep t _ _) (fun H' l' => .of (l'.lst ha)) (fun j x H' H'' hj l' hy Yk Nk kY hD' => ?_) (fun H' bs xss l' hbs hxl hpr hR => ?_)
      · obtain ⟨rfl, hx⟩ := hy
        refine ⟨rfl, ?_⟩
        obtain ⟨d, hd, hAx⟩ := (hA.le l').get' hx
        rw [List.getElem?_map] at hd
        obtain ⟨p, hp, rfl⟩ := Option.map_eq_some_iff.mp hd
        obtain ⟨b, rfl, hb⟩ := pk_of hAx
        have hpP := ((mem_lvl (by omega)).mp (List.mem_of_getElem? hp)).1
        walk_at "rg"
        refine ⟨by omega, by omega, fun D2 hD2 => ?_⟩
        refine lc_data walk_range hD2 (by omega) (fun i : Nat => if (i : Int) ∉ p then some (pk (p ++ [(i : Int)])) else none) (fun _ _ => True.intro) (fun i2 x H5 H6 hi2 l5 hy Yk2 Nk2 kY2 kN2 => ?_) (fun H5 zs l5 hzs hz => ?_)
        · obtain ⟨rfl, rfl⟩ := hy
          refine ⟨rfl, ?_⟩
          walk_at "rg"
          refine ⟨b, _, rfl, .inr (.of (l5.tup hb)), rfl, ints_flat p, ?_⟩
          rw [inV_ints]
          refine ⟨_, rfl, ?_⟩
          by_cases hc : (i2 : Int) ∈ p
          · rw [decide_eq_true hc]
            exact kN2 _ (.refl _) (if_neg (fun h => h hc))
          · rw [decide_eq_false hc]
            refine iteT ?_
            intro c hcn
            refine ⟨_, .of (by rw [upd_ne (ne_of_none (l5.tup hb) hcn)]; exact l5.tup hb), [.int i2], .of upd_same, fun e => ?_, ?_, fun e => (nomatch e), fun _ b2 hb2 => ?_⟩
            · have h1 := hpP.pos
              rw [List.map_eq_nil_iff] at e
              rw [e] at h1
              exact absurd h1 (by decide)
            · have h2 := nodup_len n p hpP.nd hpP.mem
              rw [List.length_map, sizeLine_eq]
              show p.length + 1 ≤ _
              omega
            · refine kY2 _ _ _ ((Le.new hcn).trans (.new hb2)) (if_pos hc) (pk_at ?_)
              rw [upd_same, List.map_append]
              rfl
        · refine kY D2 zs H5 l5 hD' (fun e => hD' (e ▸ hD2)) hzs ?_
          rw [Int.toNat_natCast, hear_fm2] at hz
          rw [List.getElem?_map, hp]
          exact hz
      · walk_at "rg"
        intro p5 hp5
        have hat := ats_flat (dss := (lvlM n i).map fun p => (hear n p).map fun h => pk (p ++ [h])) (by rw [List.length_map, hxl, hyl]) hR
        have hlen : xss.flatten.length = (lvlM n (i + 1)).length := by
          rw [hat.length, lvl_flat, List.length_map]
        refine ⟨D, p5, bs, xss, rfl, .of (by rw [upd_ne (ne_of_none hbs hp5)]; exact hbs), upd_same, paired_keep (fun b xs _ e => by rw [upd_ne (ne_of_none e hp5)]; exact e) hpr, ?_, fun p6 H6 l6 h6 => ?_⟩
        · rw [hlen]
          exact Nat.le_trans hll2 (Nat.le_trans (Nat.pow_le_pow_left hn10 _) (Nat.le_trans (Nat.pow_le_pow_right (by decide) (by omega : i + 1 ≤ 3)) (by rw [sizeLine_eq]; decide)))
        · refine ⟨p6, rfl, ((l.trans l').trans (.new hp5)).trans l6, _, h6, ?_⟩
          rw [← lvl_flat]
          exact hat.le ((Le.new hp5).trans l6)
    · rintro σ H1 ⟨a, v3, ys, rfl, l, ha, hA⟩
      walk_at "rg"
      refine ⟨⟨_, .of ha⟩, fun D hD => ?_⟩
      have hyl := hA.length
      rw [List.length_map] at hyl
      have hll := lvl_small (n := n) (k := min k (n - 1) - 1) hn10 (by omega)
      refine lc_data (walk_listN rfl) hD (by omega) (fun j => (lvlM n (min k (n - 1) - 1))[j]?.bind fun p => if p.length = k then some (pk p) else none) (fun H' l' => .of (l'.lst ha)) (fun j x H' H'' hj l' hy Yk Nk kY kN => ?_) (fun H' zs l' hzs hz => ?_)
      · obtain ⟨rfl, hx⟩ := hy
        refine ⟨rfl, ?_⟩
        obtain ⟨d, hd, hAx⟩ := (hA.le l').get' hx
        rw [List.getElem?_map] at hd
        obtain ⟨p, hp, rfl⟩ := Option.map_eq_some_iff.mp hd
        obtain ⟨b, rfl, hb⟩ := pk_of hAx
        rw [hp] at kY kN
        walk_at "rg"
        refine ⟨b, _, rfl, .inr (.of hb), rfl, ?_⟩
        rw [List.length_map, dec_int]
        refine ite2 (fun hc => ?_) (fun hc => ?_)
        · refine kY _ _ _ (.refl _) (if_pos ?_) (pk_at hb)
          have := of_decide_eq_true hc
          omega
        · refine kN _ (.refl _) (if_neg fun h => hc ?_)
          exact decide_eq_true (by omega)
      · refine q D H' zs (l.back hD) (l.trans l') hzs ?_
        rw [fm_get' _ hyl, fm_if (fun p : List Int => p.length = k) pk] at hz
        exact hz
def spLWhole : Sp := fun vs H Q _ => ∃ (v : Int), vs = [.int v] ∧ Q (.bl true) H
abbrev s_law_whole : Stmt := top 34
theorem sc_law_whole : FnScope ["_law_found"] ["_law_found"] (defScope s_law_whole) := ⟨rfl, rfl, rfl, by decide +kernel, rfl, by decide +kernel, by decide +kernel⟩
theorem ok_law_whole {f : Addr} {fd : FuncData} (F : Fun K "_law_whole" "_law_whole" s_law_whole f fd) (T : Bt mg) : FnOk P w K mg base CX0 1 f fd ["_law_found"] spLWhole := by
  refine F.ok sc_law_whole (fun vs H Q E h => ?_) (fun cdv A outer s H vs Q E hr h => ?_)
  · obtain ⟨v, rfl, _⟩ := h
    rfl
  · obtain ⟨v, rfl, q⟩ := h
    refine ⟨_, (pss_one (ps_ret (pe_and (pe_callB (isiK (K := K) rfl) (by rfl) T.b_isinstance bb_isinstance (pa_cons (pv 0) (pa_cons (pe_bltn (v := .ty "int") (by rfl) T.b_int bb_int rfl) pa_nil))) (pe_one (pe_not (pe_callB (isiK (K := K) rfl) (by rfl) T.b_isinstance bb_isinstance (pa_cons (pv 0) (pa_cons (pe_bltn (v := .ty "bool") (by rfl) T.b_bool bb_bool rfl) pa_nil)))))))), ?_⟩
    walk_at "rg"
    obtain ⟨t, ht, hi, hb⟩ := ty_int (K := K) (H := H) v
    exact ⟨_, _, t, _, _, rfl, .ty "int", ht, hi, _, rfl, iteT ⟨_, _, t, _, _, rfl, .ty "bool", ht, hb, _, rfl, q⟩⟩
theorem paths_lvl {n k : Nat} (hn : 2 ≤ n) (hk : k + 1 ≤ n - 1) : pathsM n (k + 1) = lvlM n k := by
  unfold pathsM
  rw [show min (k + 1) (n - 1) - 1 = k by omega]
  exact List.filter_eq_self.mpr fun p hp => decide_eq_true ((mem_lvl (by omega)).mp hp).2
theorem paths_none {n k : Nat} (hn : 2 ≤ n) (hk : n - 1 < k + 1) : pathsM n (k + 1) = [] := by
  refine List.eq_nil_iff_forall_not_mem.mpr fun p hp => ?_
  have := ((mem_paths hn (by omega)).mp hp).2.2
  omega
/-- the paths of the first k sizes -/
def upTo (n k : Nat) : List (List Int) := ((List.range k).map fun i => pathsM n (i + 1)).flatten
theorem upTo_succ (n k : Nat) : upTo n (k + 1) = upTo n k ++ pathsM n (k + 1) := by
  unfold upTo
  rw [List.range_succ, List.map_append, List.flatten_append]
  simp
theorem upTo_all {n m : Nat} (hn : 2 ≤ n) : upTo n (m + 1) = allPM n m := by
  have go : ∀ k, upTo n k = ((List.range (min k (n - 1))).map (lvlM n)).flatten := by
    intro k
    induction k with
    | zero => simp [upTo]
    | succ k ih =>
      rw [upTo_succ, ih]
      by_cases h : k + 1 ≤ n - 1
      · rw [paths_lvl hn h, show min (k + 1) (n - 1) = min k (n - 1) + 1 by omega, List.range_succ, List.map_append, List.flatten_append, show min k (n - 1) = k by omega]
        simp
      · rw [paths_none hn (by omega), List.append_nil, show min (k + 1) (n - 1) = min k (n - 1) by omega]
  exact go (m + 1)
theorem mem_upTo {n k : Nat} (hn : 2 ≤ n) {p : List Int} : p ∈ upTo n k ↔ IsP n p ∧ p.length ≤ k ∧ p.length ≤ n - 1 := by
  unfold upTo
  rw [List.mem_flatten]
  refine ⟨fun ⟨l, hl, hp⟩ => ?_, fun ⟨h1, h2, h3⟩ => ?_⟩
  · obtain ⟨i, hi, rfl⟩ := List.mem_map.mp hl
    have hi := List.mem_range.mp hi
    obtain ⟨a, b, c⟩ := (mem_paths hn (by omega)).mp hp
    exact ⟨a, by omega, by omega⟩
  · have := h1.pos
    exact ⟨_, List.mem_map.mpr ⟨p.length - 1, List.mem_range.mpr (by omega), rfl⟩, (mem_paths hn (by omega)).mpr ⟨h1, by omega, by omega⟩⟩
theorem upTo_small {n k : Nat} (hn : n ≤ 10) (hk : k ≤ 3) : (upTo n k).length ≤ 300 := by
  unfold upTo
  refine Nat.le_trans (flat_len (c := 100) fun x hx => ?_) ?_
  · obtain ⟨i, hi, rfl⟩ := List.mem_map.mp hx
    have := List.mem_range.mp hi
    exact paths_length hn (by omega)
  · rw [List.length_map, List.length_range]
    omega
theorem ty_tup {K : PySem.W.Frag} {H : Hp} {a : Addr} {xs : List V} (h : H a = some (.tup xs)) : ∃ t, TyX K H (.ref a) t ∧ PySem.W.kitOne K t (.type "tuple") = some true := ⟨_, .base (.tup h), kit_ty (a := "tuple") (b := "tuple") (r := true) (by decide +kernel)⟩
theorem ty_lst {K : PySem.W.Frag} {H : Hp} {a : Addr} {xs : List V} (h : H a = some (.lst xs)) : ∃ t, TyX K H (.ref a) t ∧ PySem.W.kitOne K t (.type "list") = some true := ⟨_, .base (.lst h), kit_ty (a := "list") (b := "list") (r := true) (by decide +kernel)⟩
theorem dict_kit {K : PySem.W.Frag} : PySem.W.kitOne K (.type "dict") (.type "dict") = some true := kit_ty (a := "dict") (b := "dict") (r := true) (by decide +kernel)
/-- a comprehension whose items are all true -/
theorem lc_trues {J : It} {n : Nat} {G : Hp → Prop} {Y : Nat → Hp → V → Hp → Prop} (wk : Walk J n G Y) {g : TG} {tt : TT} {te : TE} {vs : List Nat} {σ : L2.St} {H1 : Hp} {D' : Addr} {Q : VK} (hD : H1 D' = none) (hn : n ≤ 100000) (hG : ∀ H', Le H1 H' → G H')
    (hs : ∀ i x H' H'', i < n → Le H1 H' → Y i H' x H'' → ∀ (Yk : V → Hp → Prop) (Nk : Hp → Prop), (∀ H4, Le H' H4 → Yk (.bl true) H4) → g x (wipe σ vs) H'' fun σ2 H2 => wipe σ2 vs = wipe σ vs ∧ tt σ2 H2 fun b H3 => if b = true then te σ2 H3 Yk else Nk H3)
    (hd : ∀ H', Le H1 H' → H' D' = some (.lst ((List.replicate n true).map V.bl)) → Q (.ref D') H') : LoopC J g tt te vs σ H1 D' Q := by
  refine lc_it wk (fun i H' => Le H1 H' ∧ H' D' = some (.lst ((List.replicate i true).map V.bl))) ⟨.new hD, upd_same⟩ (fun i H' _ h => hG H' h.1) (fun i x H' H'' hi h hy => ?_) (fun H' h => hd H' h.1 h.2)
  obtain ⟨l, hx⟩ := h
  refine hs i x H' H'' hi l hy _ _ (fun H4 l4 => ⟨_, l4.lst hx, ?_, (l.trans l4).mut hD, ?_⟩)
  · rw [List.length_map, List.length_replicate]
    exact Nat.lt_of_lt_of_le hi (Nat.le_trans hn (by rw [sizeLine_eq]; decide))
  · rw [upd_same, List.replicate_succ', List.map_append]
    rfl
theorem all_true (n : Nat) : (List.replicate n true).all id = true := by
  rw [List.all_eq_true]
  intro x hx
  rw [(List.mem_replicate.mp hx).2]
  rfl
def spRight (K : PySem.W.Frag) : Sp := fun vs H Q _ => ∃ (a : Addr) (n m : Nat) (ys : List V), vs = [.ref a, .int n, .int m] ∧ 2 ≤ n ∧ n ≤ 10 ∧ m ≤ 2 ∧ H a = some (.lst ys) ∧ Ats H ((allPM n m).map pk) ys ∧ ∀ H', Le H H' → Q (.bl true) H'
abbrev s_law_paths_right : Stmt := top 38
abbrev n_law_paths_right : List Str := ["_law_found", "_law_hands", "_law_most", "_law_due", "_law_size", "_law_path", "_law_hand"]
theorem sc_law_paths_right : FnScope ["_law_found", "_law_hands", "_law_most", "_law_due", "_law_size", "_law_path", "_law_hand"] ["_law_found", "_law_hands", "_law_most"] (defScope s_law_paths_right) := ⟨rfl, rfl, rfl, by decide +kernel, rfl, by decide +kernel, by decide +kernel⟩
theorem ok_law_paths_right {f f1 f2 : Addr} {fd fd1 fd2 : FuncData} (F : Fun K "_law_paths_right" "_law_paths_right" s_law_paths_right f fd) (T : Bt mg)
    (c_law_whole : Cal P w K mg base CX0 1 "_law_whole" ["_law_found"] spLWhole f1 fd1) (c_law_paths : Cal P w K mg base CX0 1 "_law_paths" ["_law_hands", "_law_size"] spPaths f2 fd2) : FnOk P w K mg base CX0 2 f fd ["_law_found", "_law_hands", "_law_most"] (spRight K) := by
  refine F.ok sc_law_paths_right (fun vs H Q E h => ?_) (fun cdv A outer s H vs Q E hr h => ?_)
  · obtain ⟨a, n, m, ys, rfl, _⟩ := h
    rfl
  · obtain ⟨a, n, m, ys, rfl, hn, hn2, hm, ha, hA, q⟩ := h
    have hu := hr.units
    refine ⟨_, (pss_cons (ps_set (i := 3) sc_law_paths_right.nd rfl (Or.inl rfl) (pe_lst pa_nil))
        (pss_cons (ps_for PassesOwn.never rfl (pi_range2 (by rfl) T.b_range (pa_cons pe_int (pa_cons (pe_op op_add (pv 2) pe_int) pa_nil))) (pg_name (i := 4) sc_law_paths_right.nd rfl (Or.inl rfl))
          (pss_one (ps_set (i := 3) sc_law_paths_right.nd rfl (Or.inl rfl) (pe_op op_cat (pv 3) (pe_own c_law_paths (hr.mono (by omega)) rfl (pa_cons (pv 1) (pa_cons (pv 4) pa_nil)))))))
        (pss_cons (ps_if (PW.pt (pw_or (pt_not (pt_val (pe_callB (isiK (K := K) rfl) (by rfl) T.b_isinstance bb_isinstance (pa_cons (pv 0) (pa_cons (pe_bltn (v := .ty "list") (by rfl) T.b_list bb_list rfl) pa_nil))))) (pw_or1 (pt_cmpR (neLK (K := K) rfl hu) (pv 0) (pv 3) (nomark _)))))
          (pss_one (ps_ret pe_bl))
          pss_nil)
        (pss_one (ps_ret (pe_callB (allK (K := K) rfl rfl) (by rfl) T.b_all bb_all (pa_cons (pe_lc (own := [("_law_path", 5)]) (g := gName 5) rfl sc_law_paths_right.nd (pi_listK (K := K) rfl (pv 0)) (blkOk_by (N := n_law_paths_right) (sc := defScope s_law_paths_right) (own := [("_law_path", 5)]) (by decide +kernel)) (fun _ _ _ _ _ => (pg_name (i := 5) sc_law_paths_right.nd rfl (Or.inl rfl))) (fun _ _ _ _ _ => pts_nil) (fun _ _ _ _ _ => (pe_and (pe_callB (isiK (K := K) rfl) (by rfl) T.b_isinstance bb_isinstance (pa_cons (pv 5) (pa_cons (pe_bltn (v := .ty "tuple") (by rfl) T.b_tuple bb_tuple rfl) pa_nil))) (pe_one (pe_callB (allK (K := K) rfl rfl) (by rfl) T.b_all bb_all (pa_cons (pe_lc (own := [("_law_hand", 6)]) (g := gName 6) rfl sc_law_paths_right.nd (pi_tupK (K := K) rfl (pv 5)) (blkOk_by (own := [("_law_hand", 6)]) (by kernel_rfl)) (fun _ _ _ _ _ => (pg_name (i := 6) sc_law_paths_right.nd rfl (Or.inl rfl))) (fun _ _ _ _ _ => pts_nil) (fun _ _ _ _ _ => (pe_own c_law_whole (hr.mono (by omega)) rfl (pa_cons (pv 6) pa_nil)))) pa_nil)))))) pa_nil))))))), ?_⟩
    walk_at "rg"
    intro D1 hD1
    refine ⟨by omega, by omega, ?_⟩
    rw [show ((m : Int) + 2 - 1).toNat = m + 1 by omega]
    have l1 : Le H (L2.upd H D1 (.lst [])) := .new hD1
    refine for_it walk_range (fun i σ H' => ∃ (b : Addr) (v4 : Option V), σ = [some (.ref a), some (.int n), some (.int m), some (.ref b), v4, none, none] ∧ Le H H' ∧ ∃ zs, H' b = some (.lst zs) ∧ Ats H' ((upTo n i).map pk) zs)
      ⟨_, _, rfl, l1, [], upd_same, Ats.nil⟩ (fun _ _ _ _ _ => True.intro) ?_ ?_
    · rintro i x σ H3 H4 hi ⟨b, v4, rfl, l3, zs, hzs, hB⟩ ⟨rfl, rfl⟩
      walk_at "rg"
      refine ⟨n, i + 1, by simp [Int.add_comm], by omega, hn2, by omega, by omega, fun D2 H5 us hD2 l5 hus hC => ?_⟩
      have h1 := upTo_small (n := n) (k := i) hn2 (by omega)
      have h2 := paths_length (n := n) (k := i + 1) hn2 (by omega)
      have e1 := hB.length
      have e2 := hC.length
      rw [List.length_map] at e1 e2
      refine ⟨b, D2, _, _, rfl, rfl, l5.lst hzs, hus, by rw [sizeLine_eq]; omega, fun D3 hD3 => ⟨_, rfl, (l3.trans l5).trans (.new hD3), _, upd_same, ?_⟩⟩
      rw [upTo_succ, List.map_append]
      exact Ats.app ((hB.le l5).le (.new hD3)) (hC.le (.new hD3))
    · rintro σ H3 ⟨b, v4, rfl, l3, zs, hzs, hB⟩
      rw [upTo_all hn] at hB
      walk_at "rg"
      obtain ⟨tl, htl, hkl⟩ := ty_lst (K := K) (l3.lst ha)
      have okA : okDs ((allPM n m).map pk) = true := okDs_of fun d hd => by
        obtain ⟨p, _, rfl⟩ := List.mem_map.mp hd
        unfold pk
        rw [okD_tup]
        exact okDs_ints p
      have dpA : dpDs ((allPM n m).map pk) ≤ 60 := dpDs_le fun d hd => by
        obtain ⟨p, _, rfl⟩ := List.mem_map.mp hd
        unfold pk
        rw [dpD_tup, dpDs_ints]
        decide
      refine ⟨_, _, tl, _, _, rfl, .ty "list", htl, hkl, _, rfl, iteF ⟨a, b, ys, zs, _, _, rfl, rfl, .of (l3.lst ha), .of hzs, hA.le l3, hB, okA, okA, dpA, dpA, ?_⟩⟩
      rw [decide_eq_true rfl]
      refine ⟨_, rfl, iteF ⟨⟨_, .of (l3.lst ha)⟩, fun D4 hD4 => ?_⟩⟩
      have hyl := hA.length
      rw [List.length_map] at hyl
      have hall := all_small hn2 hm
      refine lc_trues (walk_listN rfl) hD4 (by omega) (fun H' l' => .of ((l3.trans l').lst ha)) (fun i x H5 H6 hi l5 hy Yk Nk kY => ?_) (fun H5 l5 h5 => ?_)
      · obtain ⟨rfl, hx⟩ := hy
        refine ⟨rfl, ?_⟩
        have l35 := l3.trans l5
        obtain ⟨d, hd, hAx⟩ := (hA.le l35).get' hx
        rw [List.getElem?_map] at hd
        obtain ⟨p, hp, rfl⟩ := Option.map_eq_some_iff.mp hd
        obtain ⟨c, rfl, hc⟩ := pk_of hAx
        obtain ⟨tc, htc, hkc⟩ := ty_tup (K := K) hc
        have hpl := ((mem_all hn).mp (List.mem_of_getElem? hp)).2.1
        walk_at "rg"
        refine ⟨_, _, tc, _, _, rfl, .ty "tuple", htc, hkc, _, rfl, iteT ⟨⟨_, .of hc⟩, fun D6 hD6 => ?_⟩⟩
        refine lc_trues (n := p.length) (walk_tupN (by rw [List.length_map])) hD6 (by omega) (fun H' l' => .of (l'.tup hc)) (fun j y H7 H8 hj l7 hy2 Yk2 Nk2 kY2 => ?_) (fun H7 l7 h7 => ?_)
        · obtain ⟨rfl, hy2⟩ := hy2
          rw [List.getElem?_map, List.getElem?_eq_getElem hj] at hy2
          obtain rfl : V.int p[j] = y := Option.some.inj hy2
          refine ⟨rfl, ?_⟩
          walk_at "rg"
          exact ⟨_, rfl, kY2 _ (.refl _)⟩
        · refine ⟨D6, _, rfl, .of h7, ?_⟩
          rw [all_true]
          exact kY _ l7
      · refine ⟨D4, _, rfl, .of h5, ?_⟩
        rw [all_true]
        exact q _ (l3.trans l5)
theorem bad_all {K : PySem.W.Frag} {H : Hp} {far : Int} (hf : 0 ≤ far) {p q : Addr} {xs ys : List V} (hp : H p = some (.tup xs)) (hq : H q = some (.lst ys)) : ∀ i : Nat, i < 10 →
    ∃ v, ([.int 0, .int 1, .int 11, .int (-1 - far), .int (11 + far), .bl true, .non, .str "3", .ref p, .ref q] : List V)[i]? = some v ∧ WhB K H v 2 10 false := by
  intro i hi
  match i, hi with
  | 0, _ => exact ⟨_, rfl, .inl ⟨_, rfl, by decide⟩⟩
  | 1, _ => exact ⟨_, rfl, .inl ⟨_, rfl, by decide⟩⟩
  | 2, _ => exact ⟨_, rfl, .inl ⟨_, rfl, by decide⟩⟩
  | 3, _ => exact ⟨_, rfl, .inl ⟨_, rfl, by rw [decide_eq_false (by omega)]; rfl⟩⟩
  | 4, _ => exact ⟨_, rfl, .inl ⟨_, rfl, by rw [decide_eq_false (show ¬ (11 + far ≤ 10) by omega), Bool.and_false]⟩⟩
  | 5, _ => exact ⟨_, rfl, .inr (.inl ⟨⟨_, rfl⟩, rfl⟩)⟩
  | 6, _ => exact ⟨_, rfl, .inr (.inr ⟨.inl rfl, rfl⟩)⟩
  | 7, _ => exact ⟨_, rfl, .inr (.inr ⟨.inr (.inl ⟨_, rfl⟩), rfl⟩)⟩
  | 8, _ => exact ⟨_, rfl, .inr (.inr ⟨.inr (.inr (.inl ⟨_, _, rfl, hp⟩)), rfl⟩)⟩
  | 9, _ => exact ⟨_, rfl, .inr (.inr ⟨.inr (.inr (.inr ⟨_, _, rfl, hq⟩)), rfl⟩)⟩
theorem none_all {K : PySem.W.Frag} {H : Hp} {far : Int} (hf : 0 ≤ far) {p q : Addr} {xs ys : List V} (hp : H p = some (.lst xs)) (hq : H q = some (.tup ys)) : ∀ i : Nat, i < 10 →
    ∃ v, ([.int 3, .int (-1), .int (3 + far), .int (-1 - far), .bl true, .non, .str "1", .ref p, .bl false, .ref q] : List V)[i]? = some v ∧ WhB K H v 0 2 false := by
  intro i hi
  match i, hi with
  | 0, _ => exact ⟨_, rfl, .inl ⟨_, rfl, by decide⟩⟩
  | 1, _ => exact ⟨_, rfl, .inl ⟨_, rfl, by decide⟩⟩
  | 2, _ => exact ⟨_, rfl, .inl ⟨_, rfl, by rw [decide_eq_false (show ¬ (3 + far ≤ 2) by omega), Bool.and_false]⟩⟩
  | 3, _ => exact ⟨_, rfl, .inl ⟨_, rfl, by rw [decide_eq_false (by omega)]; rfl⟩⟩
  | 4, _ => exact ⟨_, rfl, .inr (.inl ⟨⟨_, rfl⟩, rfl⟩)⟩
  | 5, _ => exact ⟨_, rfl, .inr (.inr ⟨.inl rfl, rfl⟩)⟩
  | 6, _ => exact ⟨_, rfl, .inr (.inr ⟨.inr (.inl ⟨_, rfl⟩), rfl⟩)⟩
  | 7, _ => exact ⟨_, rfl, .inr (.inr ⟨.inr (.inr (.inr ⟨_, _, rfl, hp⟩)), rfl⟩)⟩
  | 8, _ => exact ⟨_, rfl, .inr (.inl ⟨⟨_, rfl⟩, rfl⟩)⟩
  | 9, _ => exact ⟨_, rfl, .inr (.inr ⟨.inr (.inr (.inl ⟨_, _, rfl, hq⟩)), rfl⟩)⟩
def spLaw (K : PySem.W.Frag) : Sp := fun vs H Q _ => ∃ (a : Addr) (ns : List Int), vs = [.ref a] ∧ SqL K H a (ns.map V.int) ∧ ns.length ≤ 63 ∧ ∀ H', Q (.bl true) H'
abbrev s_law : Stmt := top 39
abbrev n_law : List Str := ["_law_script", "_law_hands", "_law_most", "_law_found", "_law_path", "_law_others", "_law_due", "_law_far", "_law_bad", "_law_none", "_law_cell", "_law_pair", "_law_hand", "_law_way"]
theorem sc_law : FnScope ["_law_script", "_law_hands", "_law_most", "_law_found", "_law_path", "_law_others", "_law_due", "_law_far", "_law_bad", "_law_none", "_law_cell", "_law_pair", "_law_hand", "_law_way"] ["_law_script"] (defScope s_law) := ⟨rfl, rfl, rfl, by decide +kernel, rfl, by decide +kernel, by decide +kernel⟩
theorem ok_law {f f1 f2 f3 f4 f5 f6 C : Addr} {fd fd1 fd2 fd3 fd4 fd5 fd6 : FuncData} (F : Fun K "law" "law" s_law f fd) (T : Bt mg)
    (cx_paths : Cal P w K mg base (L2.CX P w) 3 "paths" ["hands", "most"] (spPPathsX K C) f1 fd1) (c_hearers : Cal P w K mg base CX0 1 "hearers" ["hands", "path"] spHear f2 fd2)
    (c_law_cell_at : Cal P w K mg base CX0 1 "_law_cell_at" ["_law_script", "_law_k"] (spCell K) f3 fd3) (c_law_table : Cal P w K mg base CX0 1 "_law_table" ["_law_cell"] spTable f4 fd4)
    (c_law_refused : Cal P w K mg base CX0 6 "_law_refused" ["_law_way", "_law_hands", "_law_most"] (spRefused K) f5 fd5) (c_law_paths_right : Cal P w K mg base CX0 2 "_law_paths_right" ["_law_found", "_law_hands", "_law_most"] (spRight K) f6 fd6)
    {f7 : Addr} {fd7 : FuncData} (c_law_whole : Cal P w K mg base CX0 1 "_law_whole" ["_law_found"] spLWhole f7 fd7) : FnOk P w K mg base CX0 7 f fd ["_law_script"] (spLaw K) := by
  refine F.ok sc_law (fun vs H Q E h => ?_) (fun cdv A outer s H vs Q E hr h => ?_)
  · obtain ⟨a, ns, rfl, _⟩ := h
    rfl
  · obtain ⟨a, ns, rfl, hS, hl, q⟩ := h
    have hu := hr.units
    refine ⟨_, (pss_cons (ps_asg (pe_own c_law_table (hr.mono (by omega)) rfl (pa_cons (pe_own c_law_cell_at (hr.mono (by omega)) rfl (pa_cons (pv 0) (pa_cons pe_int pa_nil))) pa_nil)) (pg_tupK (K := K) (n := 2) rfl rfl (pgs_cons (pg_name (i := 1) sc_law.nd rfl (Or.inl rfl)) (pgs_cons (pg_name (i := 2) sc_law.nd rfl (Or.inl rfl)) pgs_nil))))
        (pss_cons (ps_set (i := 3) sc_law.nd rfl (Or.inl rfl) (pe_ownS cx_paths (hr.mono (by omega)) rfl takes0 (pa_cons (pv 1) (pa_cons (pv 2) pa_nil))))
        (pss_cons (ps_if (pt_not (pt_val (pe_own c_law_paths_right (hr.mono (by omega)) rfl (pa_cons (pv 3) (pa_cons (pv 1) (pa_cons (pv 2) pa_nil))))))
          (pss_one (ps_ret pe_bl))
          pss_nil)
        (pss_cons (ps_set (i := 4) sc_law.nd rfl (Or.inr rfl) (pe_ix (ix_listK (K := K) rfl) (pv 3) (pe_op op_mod (pe_own c_law_cell_at (hr.mono (by omega)) rfl (pa_cons (pv 0) (pa_cons pe_int pa_nil))) (pe_callB (len_seqK (K := K) rfl) (by rfl) T.b_len bb_len (pa_cons (pv 3) pa_nil))) (fun _ _ => rfl)))
        (pss_cons (ps_set (i := 5) sc_law.nd rfl (Or.inl rfl) (pe_own c_hearers (hr.mono (by omega)) rfl (pa_cons (pv 1) (pa_cons (pv 4) pa_nil))))
        (pss_cons (ps_setLc (i := 6) (own := [("_law_hand", 12)]) (g := gName 12) rfl sc_law.nd rfl rfl (sw_true rfl rfl rfl (by decide +kernel)) (pi_range1 (by rfl) T.b_range (pa_cons (pv 1) pa_nil)) (blkOk_by (N := n_law) (sc := defScope s_law) (own := [("_law_hand", 12)]) (by decide +kernel)) (fun _ _ _ _ _ => (pg_name (i := 12) sc_law.nd rfl (Or.inl rfl))) (fun _ _ _ _ _ => pts_one (pt_cmpR (notIn_seqK (K := K) rfl) (pv 12) (pv 4) rfl)) (fun _ _ _ _ _ => (pv 12)))
        (pss_cons (ps_if (PW.pt (pw_or (pt_not (pt_val (pe_callB (isiK (K := K) rfl) (by rfl) T.b_isinstance bb_isinstance (pa_cons (pv 5) (pa_cons (pe_bltn (v := .ty "list") (by rfl) T.b_list bb_list rfl) pa_nil))))) (pw_or (pt_cmpR (neLK (K := K) rfl hu) (pv 5) (pv 6) (nomark _)) (pw_or1 (pt_not (pt_val (pe_callB (allK (K := K) rfl rfl) (by rfl) T.b_all bb_all (pa_cons (pe_lc (own := [("_law_hand", 12)]) (g := gName 12) rfl sc_law.nd (pi_listK (K := K) rfl (pv 5)) (blkOk_by (N := n_law) (sc := defScope s_law) (own := [("_law_hand", 12)]) (by decide +kernel)) (fun _ _ _ _ _ => (pg_name (i := 12) sc_law.nd rfl (Or.inl rfl))) (fun _ _ _ _ _ => pts_nil) (fun _ _ _ _ _ => (pe_own c_law_whole (hr.mono (by omega)) rfl (pa_cons (pv 12) pa_nil)))) pa_nil))))))))
          (pss_one (ps_ret pe_bl))
          pss_nil)
        (pss_cons (ps_expr (bmK (K := K) rfl (pe_bm PySem.F.plainAttrs_list PySem.F.slot_list_append PySem.F.type_list_append mt_append (pv 3) (pa_cons (pe_tup (pa_cons pe_int pa_nil)) pa_nil))))
        (pss_cons (ps_expr (bmK (K := K) rfl (pe_bm PySem.F.plainAttrs_list PySem.F.slot_list_append PySem.F.type_list_append mt_append (pv 5) (pa_cons pe_int pa_nil))))
        (pss_cons (ps_set (i := 7) sc_law.nd rfl (Or.inl rfl) (pe_op op_mod (pe_own c_law_cell_at (hr.mono (by omega)) rfl (pa_cons (pv 0) (pa_cons pe_int pa_nil))) (pe_op op_pow pe_int pe_int)))
        (pss_cons (ps_set (i := 8) sc_law.nd rfl (Or.inl rfl) (pe_lst (pa_cons pe_int (pa_cons pe_int (pa_cons pe_int (pa_cons (pe_op op_sub (pe_un un_neg pe_int) (pv 7)) (pa_cons (pe_op op_add pe_int (pv 7)) (pa_cons pe_bl (pa_cons pe_non (pa_cons pe_str (pa_cons (pe_tup (pa_cons pe_int pa_nil)) (pa_cons (pe_lst (pa_cons pe_int pa_nil)) pa_nil))))))))))))
        (pss_cons (ps_set (i := 9) sc_law.nd rfl (Or.inl rfl) (pe_lst (pa_cons pe_int (pa_cons (pe_un un_neg pe_int) (pa_cons (pe_op op_add pe_int (pv 7)) (pa_cons (pe_op op_sub (pe_un un_neg pe_int) (pv 7)) (pa_cons pe_bl (pa_cons pe_non (pa_cons pe_str (pa_cons (pe_lst (pa_cons pe_int pa_nil)) (pa_cons pe_bl (pa_cons (pe_tup pa_nil) pa_nil))))))))))))
        (pss_cons (ps_set (i := 10) sc_law.nd rfl (Or.inl rfl) (pe_own c_law_cell_at (hr.mono (by omega)) rfl (pa_cons (pv 0) (pa_cons pe_int pa_nil))))
        (pss_cons (ps_set (i := 11) sc_law.nd rfl (Or.inr rfl) (pe_tup (pa_cons (pe_ix (ix_listK (K := K) rfl) (pv 8) (pe_op op_mod (pv 10) pe_int) (fun _ _ => rfl)) (pa_cons (pv 2) pa_nil))))
        (pss_join (ps_if (pt_cmpR op_gt (pe_op op_mod (pe_op op_fdiv (pv 10) pe_int) pe_int) pe_int (nomark _))
          (pss_one (ps_set (i := 11) sc_law.nd rfl (Or.inr rfl) (pe_tup (pa_cons (pe_ix (ix_listK (K := K) rfl) (pe_lst (pa_cons (pv 1) (pa_cons (pe_ix (ix_listK (K := K) rfl) (pv 8) (pe_op op_mod (pv 10) pe_int) (fun _ _ => rfl)) pa_nil))) (pe_op op_sub (pe_op op_mod (pe_op op_fdiv (pv 10) pe_int) pe_int) pe_int) (fun _ _ => rfl)) (pa_cons (pe_ix (ix_listK (K := K) rfl) (pv 9) (pe_op op_mod (pe_op op_fdiv (pv 10) pe_int) pe_int) (fun _ _ => rfl)) pa_nil)))))
          pss_nil)
        (pss_cons (ps_if (pt_not (pt_val (pe_callB (allK (K := K) rfl rfl) (by rfl) T.b_all bb_all (pa_cons (pe_lc (own := [("_law_way", 13)]) (g := gName 13) rfl sc_law.nd (pi_range1 (by rfl) T.b_range (pa_cons pe_int pa_nil)) (blkOk_by (N := n_law) (sc := defScope s_law) (own := [("_law_way", 13)]) (by decide +kernel)) (fun _ _ _ _ _ => (pg_name (i := 13) sc_law.nd rfl (Or.inl rfl))) (fun _ _ _ _ _ => pts_nil) (fun _ _ _ _ _ => (pe_own c_law_refused (hr.mono (by omega)) rfl (pa_cons (pv 13) (pa_cons (pe_ix (ix_tupK (K := K) rfl) (pv 11) pe_int (fun _ _ => rfl)) (pa_cons (pe_ix (ix_tupK (K := K) rfl) (pv 11) pe_int (fun _ _ => rfl)) pa_nil)))))) pa_nil))))
          (pss_one (ps_ret pe_bl))
          pss_nil)
        (pss_one (ps_ret (pe_and (pe_own c_law_paths_right (hr.mono (by omega)) rfl (pa_cons (pe_ownS cx_paths (hr.mono (by omega)) rfl takes0 (pa_cons (pv 1) (pa_cons (pv 2) pa_nil))) (pa_cons (pv 1) (pa_cons (pv 2) pa_nil)))) (pe_one (pe_cmpR (eqLK (K := K) rfl hu) (pe_own c_hearers (hr.mono (by omega)) rfl (pa_cons (pv 1) (pa_cons (pv 4) pa_nil))) (pv 6) (nomark _)))))))))))))))))))))), ?_⟩
    walk_at "rg"
    refine ⟨a, ns, 0, rfl, hS, hl, by decide, _, rfl, fun p0 H1 n m l1 hp0 hT => ⟨p0, rfl, _, .of hp0, rfl, _, _, rfl, _, _, rfl, rfl, ?_⟩⟩
    have hn := hT.n2
    have hn2 := hT.n10
    have hm := hT.m2
    refine ⟨_, _, rfl, .inl ⟨n, m, rfl, rfl, hn, hn2, hm, fun d H2 ys hd l2 hys hA => ?_⟩⟩
    have hyl := hA.length
    rw [List.length_map] at hyl
    have hpos : 0 < (allPM n m).length := List.length_pos_iff.mpr fun z => by
      have := (mem_all (m := m) hn).mpr ⟨.zero (by omega), by show 1 ≤ _; omega, by show 1 ≤ _; omega⟩
      rw [z] at this
      cases this
    refine ⟨d, n, m, ys, rfl, hn, hn2, hm, hys, hA, fun H3 l3 => ⟨true, rfl, iteF ?_⟩⟩
    have l03 := (l1.trans l2).trans l3
    refine ⟨a, ns, 1, rfl, l03.sql hS, hl, by decide, d, _, rfl, .inl (.of (l3.lst hys)), _, rfl, _, rfl, by omega, ?_⟩
    have i0 : 0 ≤ cell ns 1 % (ys.length : Int) := Int.emod_nonneg _ (by omega)
    have i1 : cell ns 1 % (ys.length : Int) < ys.length := Int.emod_lt_of_pos _ (by omega)
    obtain ⟨p, hp⟩ : ∃ p, (allPM n m)[(cell ns 1 % (ys.length : Int)).toNat]? = some p := ⟨_, List.getElem?_eq_getElem (by omega)⟩
    obtain ⟨v, hv, hAv⟩ := (hA.le l3).get (i := (cell ns 1 % (ys.length : Int)).toNat) (d := pk p) (by rw [List.getElem?_map, hp]; rfl)
    obtain ⟨b, rfl, hb⟩ := pk_of hAv
    have hpP := ((mem_all hn).mp (List.mem_of_getElem? hp)).1
    refine ⟨d, _, _, _, rfl, rfl, .of (l3.lst hys), at_of (j := (cell ns 1 % (ys.length : Int)).toNat) (by omega) hv, n, p, b, rfl, hb, by omega, fun o1 H4 ho1 l4 ho1s => ⟨n, rfl, by omega, by omega, fun D1 hD1 => ?_⟩⟩
    have l04 := l03.trans l4
    have hb4 := l4.tup hb
    refine lc_data walk_range hD1 (by omega) (fun i : Nat => if (i : Int) ∉ p then some (.num (i : Int)) else none) (fun _ _ => True.intro) (fun i x H' H'' hi l hy Yk Nk kY kN => ?_) (fun H5 zs l5 hzs hz => ?_)
    · obtain ⟨rfl, rfl⟩ := hy
      refine ⟨rfl, ?_⟩
      walk_at "rg"
      refine ⟨b, _, rfl, .inr (.of (l.tup hb4)), rfl, ints_flat p, ?_⟩
      rw [inV_ints]
      refine ⟨_, rfl, ?_⟩
      by_cases hc : (i : Int) ∈ p
      · rw [decide_eq_true hc]
        exact kN _ (.refl _) (if_neg (fun h => h hc))
      · rw [decide_eq_false hc]
        exact kY _ _ _ (.refl _) (if_pos hc) At.int
    · rw [Int.toNat_natCast, hear_fm] at hz
      have ez := hz.ints
      subst ez
      have l05 := l04.trans l5
      obtain ⟨to, hto, hko⟩ := ty_lst (K := K) (l5.lst ho1s)
      have dpi : dpDs ((hear n p).map .num) ≤ 60 := by rw [dpDs_ints]; exact Nat.zero_le _
      have hhl := hear_length n p
      refine ⟨_, _, to, _, _, rfl, .ty "list", hto, hko, _, rfl, iteF ⟨o1, D1, _, _, (hear n p).map .num, (hear n p).map .num, rfl, rfl, .of (l5.lst ho1s), .of hzs, ats_ints _, ats_ints _, okDs_ints _, okDs_ints _, dpi, dpi, ?_⟩⟩
      rw [decide_eq_true rfl]
      refine ⟨_, rfl, iteF ⟨o1, rfl, ⟨_, .of (l5.lst ho1s)⟩, fun D6 hD6 => ?_⟩⟩
      refine lc_trues (n := (hear n p).length) (walk_listN (by rw [List.length_map])) hD6 (by omega) (fun H' l' => .of ((l5.trans l').lst ho1s)) (fun i x H' H'' hi l hy Yk Nk kY => ?_) (fun H7 l7 h7 => ?_)
      · obtain ⟨rfl, hy⟩ := hy
        rw [List.getElem?_map, List.getElem?_eq_getElem hi] at hy
        obtain rfl : V.int (hear n p)[i] = x := Option.some.inj hy
        refine ⟨rfl, ?_⟩
        walk_at "rg"
        exact ⟨_, rfl, kY _ (.refl _)⟩
      · refine ⟨D6, _, rfl, .of h7, ?_⟩
        rw [all_true]
        have l37 := (l4.trans l5).trans l7
        have l07 := l05.trans l7
        have hdH : H d = none := l1.back hd
        have hoH : H o1 = none := l03.back ho1
        have hdo : d ≠ o1 := ne_of_none (l3.lst hys) ho1
        have hd7 := l37.lst (l3.lst hys)
        have ho7 := (l5.trans l7).lst ho1s
        have hb7 := l37.tup hb
        have hz7 := l7.lst hzs
        have hD1d : D1 ≠ d := fun e => by rw [e, l4.lst (l3.lst hys)] at hD1; cases hD1
        have hD1o : D1 ≠ o1 := fun e => by rw [e, ho1s] at hD1; cases hD1
        have hbd : b ≠ d := fun e => by rw [e, hd7] at hb7; cases hb7
        have hbo : b ≠ o1 := fun e => by rw [e, ho7] at hb7; cases hb7
        have s100 : ∀ z : Nat, z ≤ 1000 → z < sizeLine := fun z hz => by rw [sizeLine_eq]; omega
        have hall := all_small (n := n) (m := m) hn2 hm
        refine ⟨true, rfl, iteF ⟨.inl ⟨rfl, _, .of hd7⟩, fun p5 hp5 => ?_⟩⟩
        have l5a : Le H7 (L2.upd H7 p5 (.tup [.int 5])) := .new hp5
        refine ⟨d, rfl, _, l5a.lst hd7, s100 _ (by omega), ?_⟩
        have ho8 : (L2.upd (L2.upd H7 p5 (.tup [.int 5])) d (.lst (ys ++ [.ref p5]))) o1 = some (.lst ((hear n p).map .int)) := by rw [upd_ne (Ne.symm hdo)]; exact l5a.lst ho7
        refine ⟨.inl ⟨rfl, _, .of ho8⟩, o1, rfl, _, ho8, s100 _ (by rw [List.length_map]; omega), ?_⟩
        have l09 : Le H (L2.upd (L2.upd (L2.upd H7 p5 (.tup [.int 5])) d (.lst (ys ++ [.ref p5]))) o1 (.lst ((hear n p).map .int ++ [.int 5]))) := ((l07.trans l5a).mut hdH).mut hoH
        have hb9 : (L2.upd (L2.upd (L2.upd H7 p5 (.tup [.int 5])) d (.lst (ys ++ [.ref p5]))) o1 (.lst ((hear n p).map .int ++ [.int 5]))) b = some (.tup (p.map .int)) := by rw [upd_ne hbo, upd_ne hbd]; exact l5a.tup hb7
        have hz9 : (L2.upd (L2.upd (L2.upd H7 p5 (.tup [.int 5])) d (.lst (ys ++ [.ref p5]))) o1 (.lst ((hear n p).map .int ++ [.int 5]))) D1 = some (.lst ((hear n p).map .int)) := by rw [upd_ne hD1o, upd_ne hD1d]; exact l5a.lst hz7
        generalize (L2.upd (L2.upd (L2.upd H7 p5 (.tup [.int 5])) d (.lst (ys ++ [.ref p5]))) o1 (.lst ((hear n p).map .int ++ [.int 5]))) = H9 at l09 hb9 hz9 ⊢
        refine ⟨a, ns, 2, rfl, l09.sql hS, hl, by decide, ⟨by decide, by decide, by decide⟩, _, rfl, ?_⟩
        have hf : 0 ≤ cell ns 2 % 10 ^ Int.toNat 12 := Int.emod_nonneg _ (by decide)
        generalize cell ns 2 % 10 ^ Int.toNat 12 = far at hf ⊢
        clear hA hAv l37 hd7 ho7 hb7 hz7 l5a ho8
        intro p6 h6 p7 h7x p8 h8 p9 h9 p10 h10 p11 h11
        have c6 : Le H9 (L2.upd H9 p6 (.tup [.int 3])) := .new h6
        have c7 := c6.trans (.new h7x (o := .lst [.int 4]))
        have c8 := c7.trans (.new h8 (o := .lst [.int 0, .int 1, .int 11, .int (-1 - far), .int (11 + far), .bl true, .non, .str "3", .ref p6, .ref p7]))
        have c9 := c8.trans (.new h9 (o := .lst [.int 1]))
        have c10 := c9.trans (.new h10 (o := .tup []))
        have c11 := c10.trans (.new h11 (o := .lst [.int 3, .int (-1), .int (3 + far), .int (-1 - far), .bl true, .non, .str "1", .ref p9, .bl false, .ref p10]))
        have e6 := ((((Le.new h7x (o := .lst [.int 4])).trans (.new h8 (o := .lst [.int 0, .int 1, .int 11, .int (-1 - far), .int (11 + far), .bl true, .non, .str "3", .ref p6, .ref p7]))).trans (.new h9 (o := .lst [.int 1]))).trans (.new h10 (o := .tup []))).trans (.new h11 (o := .lst [.int 3, .int (-1), .int (3 + far), .int (-1 - far), .bl true, .non, .str "1", .ref p9, .bl false, .ref p10]))
        have t6 := e6.tup (upd_same (H := H9) (a := p6) (o := .tup [.int 3]))
        have e7 := (((Le.new h8 (o := .lst [.int 0, .int 1, .int 11, .int (-1 - far), .int (11 + far), .bl true, .non, .str "3", .ref p6, .ref p7])).trans (.new h9 (o := .lst [.int 1]))).trans (.new h10 (o := .tup []))).trans (.new h11 (o := .lst [.int 3, .int (-1), .int (3 + far), .int (-1 - far), .bl true, .non, .str "1", .ref p9, .bl false, .ref p10]))
        have t7 := e7.lst (upd_same (H := L2.upd H9 p6 (.tup [.int 3])) (a := p7) (o := .lst [.int 4]))
        have t8 := (((Le.new h9 (o := .lst [.int 1])).trans (.new h10 (o := .tup []))).trans (.new h11 (o := .lst [.int 3, .int (-1), .int (3 + far), .int (-1 - far), .bl true, .non, .str "1", .ref p9, .bl false, .ref p10]))).lst upd_same
        have t9 := ((Le.new h10 (o := .tup [])).trans (.new h11 (o := .lst [.int 3, .int (-1), .int (3 + far), .int (-1 - far), .bl true, .non, .str "1", .ref p9, .bl false, .ref p10]))).lst upd_same
        have t10 := (Le.new h11 (o := .lst [.int 3, .int (-1), .int (3 + far), .int (-1 - far), .bl true, .non, .str "1", .ref p9, .bl false, .ref p10])).tup upd_same
        have t11 : (L2.upd _ p11 _) p11 = some (.lst [.int 3, .int (-1), .int (3 + far), .int (-1 - far), .bl true, .non, .str "1", .ref p9, .bl false, .ref p10]) := upd_same (H := L2.upd (L2.upd (L2.upd (L2.upd (L2.upd H9 p6 (.tup [.int 3])) p7 (.lst [.int 4])) p8 (.lst [.int 0, .int 1, .int 11, .int (-1 - far), .int (11 + far), .bl true, .non, .str "3", .ref p6, .ref p7])) p9 (.lst [.int 1])) p10 (.tup []))
        clear e6 e7 c6 c7 c8 c9 c10
        revert c11 t6 t7 t8 t9 t10 t11
        generalize (L2.upd _ p11 _) = H10
        intro c11 t6 t7 t8 t9 t10 t11
        have l10 := l09.trans c11
        refine ⟨a, ns, 3, rfl, l10.sql hS, hl, by decide, _, rfl, ?_⟩
        generalize cell ns 3 = ce
        obtain ⟨vb, hvb, wb⟩ := bad_all (K := K) hf t6 t7 (ce % 10).toNat (by omega)
        have hatb : atI _ (ce % 10) = some vb := at_of (j := (ce % 10).toNat) (by omega) hvb
        refine ⟨p8, _, _, vb, rfl, rfl, .of t8, hatb, fun p12 h12 => ?_⟩
        have wn : WhB K H10 (.int n) 2 10 true := .inl ⟨n, rfl, by rw [decide_eq_true (show (2 : Int) ≤ n by omega), decide_eq_true (show (n : Int) ≤ 10 by omega)]; rfl⟩
        refine ⟨fun σ' H' => ∃ (pr : Addr) (v1 v2 : V), σ' = [some (.ref a), some (.int n), some (.int m), some (.ref d), some (.ref b), some (.ref o1), some (.ref D1), some (.int far), some (.ref p8), some (.ref p11), some (.int ce), some (.ref pr), none, none] ∧ Le H10 H' ∧ H' pr = some (.tup [v1, v2]) ∧ BadT K H' v1 v2, ?_, ?_⟩
        · walk_at "rg"
          refine ite2 (fun hc => ?_) (fun hc => ?_)
          · have lc1 : Le H10 (L2.upd H10 p12 (.tup [vb, .int m])) := .new h12
            refine ⟨p8, _, _, vb, rfl, rfl, .of (lc1.lst t8), hatb, fun p13 h13 => ?_⟩
            have lc2 := lc1.trans (.new h13 (o := .lst [.int n, vb]))
            have hq3 : ce / 10 % 3 = 1 ∨ ce / 10 % 3 = 2 := by
              have := of_decide_eq_true hc
              omega
            obtain ⟨vn, hvn, wnn⟩ := none_all (K := K) hf t9 t10 (ce / 30 % 10).toNat (by omega)
            have hatn : atI _ (ce / 30 % 10) = some vn := at_of (j := (ce / 30 % 10).toNat) (by omega) hvn
            rcases hq3 with h3 | h3
            · refine ⟨p13, _, _, .int n, rfl, rfl, .of upd_same, at_of (j := 0) (by omega) rfl, p11, _, _, vn, rfl, rfl, .of (lc2.lst t11), hatn, fun p14 h14 => ⟨lc2.trans (.new h14), _, _, upd_same, true, false, (wn.le lc2).le (.new h14), (wnn.le lc2).le (.new h14), rfl⟩⟩
            · refine ⟨p13, _, _, vb, rfl, rfl, .of upd_same, at_of (j := 1) (by omega) rfl, p11, _, _, vn, rfl, rfl, .of (lc2.lst t11), hatn, fun p14 h14 => ⟨lc2.trans (.new h14), _, _, upd_same, false, false, (wb.le lc2).le (.new h14), (wnn.le lc2).le (.new h14), rfl⟩⟩
          · exact ⟨.new h12, vb, .int m, upd_same, false, _, wb.le (.new h12), .inl ⟨m, rfl, rfl⟩, rfl⟩
        · rintro σ' H' ⟨pr, v1, v2, rfl, lf, hpr, hbad⟩
          walk_at "rg"
          intro D7 hD7
          have lf9 := l10.trans lf
          have hb' := lf.tup (c11.tup hb9)
          have hz' := lf.lst (c11.lst hz9)
          refine lc_trues (n := 4) walk_range hD7 (by decide) (fun _ _ => True.intro) (fun i x H5' H6' hi l hy Yk Nk kY => ?_) (fun H5' l h5' => ?_)
          · obtain ⟨rfl, rfl⟩ := hy
            refine ⟨rfl, ?_⟩
            walk_at "rg"
            exact ⟨pr, _, _, _, rfl, rfl, .of (l.tup hpr), at_of (j := 0) (by decide) rfl, pr, _, _, _, rfl, rfl, .of (l.tup hpr), at_of (j := 1) (by decide) rfl, _, v1, v2, rfl, hbad.le l, fun H8' l8 => kY _ l8⟩
          · refine ⟨D7, _, rfl, .of h5', ?_⟩
            rw [all_true]
            refine ⟨true, rfl, iteF ⟨_, _, rfl, .inl ⟨n, m, rfl, rfl, hn, hn2, hm, fun d' H6' ys' hd' l6 hys' hA' => ⟨d', n, m, ys', rfl, hn, hn2, hm, hys', hA', fun H7' l7' => ⟨true, rfl, iteT ?_⟩⟩⟩⟩⟩
            have lz := (l.trans l6).trans l7'
            refine ⟨n, p, b, rfl, lz.tup hb', by omega, fun o2 H8' ho2 l8' ho2s => ⟨o2, D1, _, _, (hear n p).map .num, (hear n p).map .num, rfl, rfl, .of ho2s, .of ((lz.trans l8').lst hz'), ats_ints _, ats_ints _, okDs_ints _, okDs_ints _, dpi, dpi, ?_⟩⟩
            rw [decide_eq_true rfl]
            exact q _
end
theorem all_mk {l : PySem.W.OpenLaw} {w : World} {K : PySem.W.Frag} {h : Heap} {mg : Str → Option Value} {fa f1 f2 f3 f4 f5 f6 f7 f8 f9 f10 f11 f12 f13 f14 C_TableError C_NoTable C_NoHand C_NoSaying C_NoSign C_NotOver C_Over C_Table : Addr} (X : K.In h) (G : h.Ns mainGlobals mg) (hfa : mg "law" = some (.ref fa))
    {od1 an1 od2 an2 od3 an3 od4 an4 od5 an5 od6 an6 od7 an7 od8 an8 od9 an9 od10 an10 od11 an11 od12 an12 od13 an13 od14 an14 : Option Addr} {sl1 sl2 sl3 sl4 sl5 sl6 sl7 sl8 sl9 sl10 sl11 sl12 sl13 sl14 : Array (Option Value)} {oc1 kV1 dc1 pm1 cd1 ct1 oc2 kV2 dc2 pm2 cd2 ct2 oc3 kV3 dc3 pm3 cd3 ct3 oc4 kV4 dc4 pm4 cd4 ct4 oc5 kV5 dc5 pm5 cd5 ct5 oc6 kV6 dc6 pm6 cd6 ct6 oc7 kV7 dc7 pm7 cd7 ct7 oc8 kV8 dc8 pm8 cd8 ct8 oc9 kV9 dc9 pm9 cd9 ct9 oc10 kV10 dc10 pm10 cd10 ct10 oc11 kV11 dc11 pm11 cd11 ct11 oc12 kV12 dc12 pm12 cd12 ct12 oc13 kV13 dc13 pm13 cd13 ct13 oc14 kV14 dc14 pm14 cd14 ct14 : Value}
    (cg_Table : PySem.W.nsIn K mainGlobals "Table" = some (some (.ref C_Table))) (cm_Table : PySem.W.makesIn K C_Table = true) (ck_Table : PySem.W.keepIn K (.ref C_Table) = true)
    (a1 : PySem.W.nsIn K mainGlobals "is_whole" = some (some (.ref f1)))
    (l1 : K.lookup f1 = some ⟨oc1, od1, .func (PySem.W.fnOf "is_whole" "is_whole" (defArgs s_is_whole) (defBody s_is_whole) (defScope s_is_whole) .none kV1 dc1 pm1 an1 cd1 ct1), sl1⟩) (c1 : PySem.W.codeIn K cd1 "is_whole" = true) (k1 : PySem.W.keepIn K (.ref f1) = true)
    (a2 : PySem.W.nsIn K mainGlobals "check_table" = some (some (.ref f2)))
    (l2 : K.lookup f2 = some ⟨oc2, od2, .func (PySem.W.fnOf "check_table" "check_table" (defArgs s_check_table) (defBody s_check_table) (defScope s_check_table) .none kV2 dc2 pm2 an2 cd2 ct2), sl2⟩) (c2 : PySem.W.codeIn K cd2 "check_table" = true) (k2 : PySem.W.keepIn K (.ref f2) = true)
    (a3 : PySem.W.nsIn K mainGlobals "hearers" = some (some (.ref f3)))
    (l3 : K.lookup f3 = some ⟨oc3, od3, .func (PySem.W.fnOf "hearers" "hearers" (defArgs s_hearers) (defBody s_hearers) (defScope s_hearers) .none kV3 dc3 pm3 an3 cd3 ct3), sl3⟩) (c3 : PySem.W.codeIn K cd3 "hearers" = true) (k3 : PySem.W.keepIn K (.ref f3) = true)
    (a4 : PySem.W.nsIn K mainGlobals "paths" = some (some (.ref f4)))
    (l4 : K.lookup f4 = some ⟨oc4, od4, .func (PySem.W.fnOf "paths" "paths" (defArgs s_paths) (defBody s_paths) (defScope s_paths) .none kV4 dc4 pm4 an4 cd4 ct4), sl4⟩) (c4 : PySem.W.codeIn K cd4 "paths" = true) (k4 : PySem.W.keepIn K (.ref f4) = true)
    (a5 : PySem.W.nsIn K mainGlobals "parting" = some (some (.ref f5)))
    (l5 : K.lookup f5 = some ⟨oc5, od5, .func (PySem.W.fnOf "parting" "parting" (defArgs s_parting) (defBody s_parting) (defScope s_parting) .none kV5 dc5 pm5 an5 cd5 ct5), sl5⟩) (c5 : PySem.W.codeIn K cd5 "parting" = true) (k5 : PySem.W.keepIn K (.ref f5) = true)
    (a6 : PySem.W.findIn K (.ref C_Table) "__init__" = some (some (.ref f6)))
    (l6 : K.lookup f6 = some ⟨oc6, od6, .func (PySem.W.fnOf "__init__" "Table.__init__" (defArgs s_Table___init__) (defBody s_Table___init__) (defScope s_Table___init__) .none kV6 dc6 pm6 an6 cd6 ct6), sl6⟩) (c6 : PySem.W.codeIn K cd6 "Table.__init__" = true) (k6 : PySem.W.keepIn K (.ref f6) = true)
    (a7 : PySem.W.nsIn K mainGlobals "parts" = some (some (.ref f7)))
    (l7 : K.lookup f7 = some ⟨oc7, od7, .func (PySem.W.fnOf "parts" "parts" (defArgs s_parts) (defBody s_parts) (defScope s_parts) .none kV7 dc7 pm7 an7 cd7 ct7), sl7⟩) (c7 : PySem.W.codeIn K cd7 "parts" = true) (k7 : PySem.W.keepIn K (.ref f7) = true)
    (a8 : PySem.W.nsIn K mainGlobals "_law_cell_at" = some (some (.ref f8)))
    (l8 : K.lookup f8 = some ⟨oc8, od8, .func (PySem.W.fnOf "_law_cell_at" "_law_cell_at" (defArgs s_law_cell_at) (defBody s_law_cell_at) (defScope s_law_cell_at) .none kV8 dc8 pm8 an8 cd8 ct8), sl8⟩) (c8 : PySem.W.codeIn K cd8 "_law_cell_at" = true) (k8 : PySem.W.keepIn K (.ref f8) = true)
    (a9 : PySem.W.nsIn K mainGlobals "_law_whole" = some (some (.ref f9)))
    (l9 : K.lookup f9 = some ⟨oc9, od9, .func (PySem.W.fnOf "_law_whole" "_law_whole" (defArgs s_law_whole) (defBody s_law_whole) (defScope s_law_whole) .none kV9 dc9 pm9 an9 cd9 ct9), sl9⟩) (c9 : PySem.W.codeIn K cd9 "_law_whole" = true) (k9 : PySem.W.keepIn K (.ref f9) = true)
    (a10 : PySem.W.nsIn K mainGlobals "_law_table" = some (some (.ref f10)))
    (l10 : K.lookup f10 = some ⟨oc10, od10, .func (PySem.W.fnOf "_law_table" "_law_table" (defArgs s_law_table) (defBody s_law_table) (defScope s_law_table) .none kV10 dc10 pm10 an10 cd10 ct10), sl10⟩) (c10 : PySem.W.codeIn K cd10 "_law_table" = true) (k10 : PySem.W.keepIn K (.ref f10) = true)
    (a11 : PySem.W.nsIn K mainGlobals "_law_paths" = some (some (.ref f11)))
    (l11 : K.lookup f11 = some ⟨oc11, od11, .func (PySem.W.fnOf "_law_paths" "_law_paths" (defArgs s_law_paths) (defBody s_law_paths) (defScope s_law_paths) .none kV11 dc11 pm11 an11 cd11 ct11), sl11⟩) (c11 : PySem.W.codeIn K cd11 "_law_paths" = true) (k11 : PySem.W.keepIn K (.ref f11) = true)
    (a12 : PySem.W.nsIn K mainGlobals "_law_refused" = some (some (.ref f12)))
    (l12 : K.lookup f12 = some ⟨oc12, od12, .func (PySem.W.fnOf "_law_refused" "_law_refused" (defArgs s_law_refused) (defBody s_law_refused) (defScope s_law_refused) .none kV12 dc12 pm12 an12 cd12 ct12), sl12⟩) (c12 : PySem.W.codeIn K cd12 "_law_refused" = true) (k12 : PySem.W.keepIn K (.ref f12) = true)
    (a13 : PySem.W.nsIn K mainGlobals "_law_paths_right" = some (some (.ref f13)))
    (l13 : K.lookup f13 = some ⟨oc13, od13, .func (PySem.W.fnOf "_law_paths_right" "_law_paths_right" (defArgs s_law_paths_right) (defBody s_law_paths_right) (defScope s_law_paths_right) .none kV13 dc13 pm13 an13 cd13 ct13), sl13⟩) (c13 : PySem.W.codeIn K cd13 "_law_paths_right" = true) (k13 : PySem.W.keepIn K (.ref f13) = true)
    (a14 : PySem.W.nsIn K mainGlobals "law" = some (some (.ref f14)))
    (l14 : K.lookup f14 = some ⟨oc14, od14, .func (PySem.W.fnOf "law" "law" (defArgs s_law) (defBody s_law) (defScope s_law) .none kV14 dc14 pm14 an14 cd14 ct14), sl14⟩) (c14 : PySem.W.codeIn K cd14 "law" = true) (k14 : PySem.W.keepIn K (.ref f14) = true)
    (z_range : PySem.W.nsIn K mainGlobals "range" = some none)
    (z_str : PySem.W.nsIn K mainGlobals "str" = some none)
    (z_int : PySem.W.nsIn K mainGlobals "int" = some none)
    (z_bool : PySem.W.nsIn K mainGlobals "bool" = some none)
    (z_list : PySem.W.nsIn K mainGlobals "list" = some none)
    (z_tuple : PySem.W.nsIn K mainGlobals "tuple" = some none)
    (z_dict : PySem.W.nsIn K mainGlobals "dict" = some none)
    (z_set : PySem.W.nsIn K mainGlobals "set" = some none)
    (z_enumerate : PySem.W.nsIn K mainGlobals "enumerate" = some none)
    (z_len : PySem.W.nsIn K mainGlobals "len" = some none)
    (z_isinstance : PySem.W.nsIn K mainGlobals "isinstance" = some none)
    (z_min : PySem.W.nsIn K mainGlobals "min" = some none)
    (z_max : PySem.W.nsIn K mainGlobals "max" = some none)
    (z_sum : PySem.W.nsIn K mainGlobals "sum" = some none)
    (z_all : PySem.W.nsIn K mainGlobals "all" = some none)
    (z_ValueError : PySem.W.nsIn K mainGlobals "ValueError" = some none)
    (z_permutations : PySem.W.nsIn K mainGlobals "permutations" = some (some (.type PM)))
    (xg_TableError : PySem.W.nsIn K mainGlobals "TableError" = some (some (.ref C_TableError))) (xq_TableError : PySem.W.excIn K C_TableError [.type "ValueError", .type "Exception", .type "BaseException", .type "object"] "ValueError.__new__" = true) (xk_TableError : PySem.W.keepIn K (.ref C_TableError) = true) (xb_TableError : PySem.W.subIn K (.ref C_TableError) (.type "BaseException") = some true) (xt_TableError : PySem.W.typeIn K (.ref C_TableError) = some (.type "type"))
    (xg_NoTable : PySem.W.nsIn K mainGlobals "NoTable" = some (some (.ref C_NoTable))) (xq_NoTable : PySem.W.excIn K C_NoTable [.type "ValueError", .type "Exception", .type "BaseException", .type "object"] "ValueError.__new__" = true) (xk_NoTable : PySem.W.keepIn K (.ref C_NoTable) = true) (xb_NoTable : PySem.W.subIn K (.ref C_NoTable) (.type "BaseException") = some true) (xt_NoTable : PySem.W.typeIn K (.ref C_NoTable) = some (.type "type"))
    (xg_NoHand : PySem.W.nsIn K mainGlobals "NoHand" = some (some (.ref C_NoHand))) (xq_NoHand : PySem.W.excIn K C_NoHand [.type "ValueError", .type "Exception", .type "BaseException", .type "object"] "ValueError.__new__" = true) (xk_NoHand : PySem.W.keepIn K (.ref C_NoHand) = true) (xb_NoHand : PySem.W.subIn K (.ref C_NoHand) (.type "BaseException") = some true) (xt_NoHand : PySem.W.typeIn K (.ref C_NoHand) = some (.type "type"))
    (xg_NoSaying : PySem.W.nsIn K mainGlobals "NoSaying" = some (some (.ref C_NoSaying))) (xq_NoSaying : PySem.W.excIn K C_NoSaying [.type "ValueError", .type "Exception", .type "BaseException", .type "object"] "ValueError.__new__" = true) (xk_NoSaying : PySem.W.keepIn K (.ref C_NoSaying) = true) (xb_NoSaying : PySem.W.subIn K (.ref C_NoSaying) (.type "BaseException") = some true) (xt_NoSaying : PySem.W.typeIn K (.ref C_NoSaying) = some (.type "type"))
    (xg_NoSign : PySem.W.nsIn K mainGlobals "NoSign" = some (some (.ref C_NoSign))) (xq_NoSign : PySem.W.excIn K C_NoSign [.type "ValueError", .type "Exception", .type "BaseException", .type "object"] "ValueError.__new__" = true) (xk_NoSign : PySem.W.keepIn K (.ref C_NoSign) = true) (xb_NoSign : PySem.W.subIn K (.ref C_NoSign) (.type "BaseException") = some true) (xt_NoSign : PySem.W.typeIn K (.ref C_NoSign) = some (.type "type"))
    (xg_NotOver : PySem.W.nsIn K mainGlobals "NotOver" = some (some (.ref C_NotOver))) (xq_NotOver : PySem.W.excIn K C_NotOver [.type "ValueError", .type "Exception", .type "BaseException", .type "object"] "ValueError.__new__" = true) (xk_NotOver : PySem.W.keepIn K (.ref C_NotOver) = true) (xb_NotOver : PySem.W.subIn K (.ref C_NotOver) (.type "BaseException") = some true) (xt_NotOver : PySem.W.typeIn K (.ref C_NotOver) = some (.type "type"))
    (xg_Over : PySem.W.nsIn K mainGlobals "Over" = some (some (.ref C_Over))) (xq_Over : PySem.W.excIn K C_Over [.type "ValueError", .type "Exception", .type "BaseException", .type "object"] "ValueError.__new__" = true) (xk_Over : PySem.W.keepIn K (.ref C_Over) = true) (xb_Over : PySem.W.subIn K (.ref C_Over) (.type "BaseException") = some true) (xt_Over : PySem.W.typeIn K (.ref C_Over) = some (.type "type"))
    (cf_Table : PySem.W.isFn K (.ref f6) = true)
    (e1 : PySem.W.findIn K (.ref C_NoTable) "__getattribute__" = some (some (.builtin "BaseException.__getattribute__")))
    (e2 : PySem.W.findIn K (.ref C_NoTable) "__getattr__" = some none)
    (e3 : PySem.W.hasDictIn K C_NoTable = true)
    (e4 : PySem.W.findIn K (.ref C_NoTable) "__class__" = some (some (.builtin "object.__class__")))
    (e5 : PySem.W.specialIn K (.builtin "object.__class__") "__get__" = some (some (.builtin "getset_descriptor.__get__")))
    (e6 : PySem.W.takesIn K (.builtin "object.__class__") = some true)
    (e7 : PySem.W.mroIn K C_NoTable (.type "object") = some true)
    (e8 : PySem.W.subIn K (.ref C_NoTable) (.ref C_TableError) = some true)
    (e9 : PySem.W.hasDictIn K C_TableError = true)
    (e10 : PySem.W.subIn K (.ref C_NoTable) (.type "ValueError") = some true)
    (s_NoHand : PySem.W.subIn K (.ref C_NoTable) (.ref C_NoHand) = some false)
    (h_NoHand : PySem.W.hasDictIn K C_NoHand = true)
    (n_NoHand : (Value.ref C_NoTable == Value.ref C_NoHand) = false)
    (s_NoSaying : PySem.W.subIn K (.ref C_NoTable) (.ref C_NoSaying) = some false)
    (h_NoSaying : PySem.W.hasDictIn K C_NoSaying = true)
    (n_NoSaying : (Value.ref C_NoTable == Value.ref C_NoSaying) = false)
    (s_NoSign : PySem.W.subIn K (.ref C_NoTable) (.ref C_NoSign) = some false)
    (h_NoSign : PySem.W.hasDictIn K C_NoSign = true)
    (n_NoSign : (Value.ref C_NoTable == Value.ref C_NoSign) = false)
    (s_NotOver : PySem.W.subIn K (.ref C_NoTable) (.ref C_NotOver) = some false)
    (h_NotOver : PySem.W.hasDictIn K C_NotOver = true)
    (n_NotOver : (Value.ref C_NoTable == Value.ref C_NotOver) = false)
    (s_Over : PySem.W.subIn K (.ref C_NoTable) (.ref C_Over) = some false)
    (h_Over : PySem.W.hasDictIn K C_Over = true)
    (n_Over : (Value.ref C_NoTable == Value.ref C_Over) = false) :
    ∃ fd : FuncData, (∀ (s : Shared) (v : Value), BindsTo s fd ⟨[v], []⟩ [("_law_script", v)]) ∧ ∀ base : Heap, K.In base → base.Ns mainGlobals mg → FnOk l.prog w K mg base CX0 7 fa fd ["_law_script"] (spLaw K) := by
  have e := hfa.symm.trans (PySem.W.mg_of X G a14)
  cases e
  have T : Bt mg := ⟨PySem.W.mg_none_of X G z_range, PySem.W.mg_none_of X G z_str, PySem.W.mg_none_of X G z_int, PySem.W.mg_none_of X G z_bool, PySem.W.mg_none_of X G z_list, PySem.W.mg_none_of X G z_tuple, PySem.W.mg_none_of X G z_dict, PySem.W.mg_none_of X G z_set, PySem.W.mg_none_of X G z_enumerate, PySem.W.mg_none_of X G z_len, PySem.W.mg_none_of X G z_isinstance, PySem.W.mg_none_of X G z_min, PySem.W.mg_none_of X G z_max, PySem.W.mg_none_of X G z_sum, PySem.W.mg_none_of X G z_all⟩
  have TP : mg "permutations" = some (.type PM) := PySem.W.mg_of X G z_permutations
  have bv : mg "ValueError" = none := PySem.W.mg_none_of X G z_ValueError
  have x_TableError : ExX K mg "TableError" C_TableError := ⟨PySem.W.mg_of X G xg_TableError, xq_TableError, xk_TableError, xb_TableError, xt_TableError⟩
  have x_NoTable : ExX K mg "NoTable" C_NoTable := ⟨PySem.W.mg_of X G xg_NoTable, xq_NoTable, xk_NoTable, xb_NoTable, xt_NoTable⟩
  have x_NoHand : ExX K mg "NoHand" C_NoHand := ⟨PySem.W.mg_of X G xg_NoHand, xq_NoHand, xk_NoHand, xb_NoHand, xt_NoHand⟩
  have x_NoSaying : ExX K mg "NoSaying" C_NoSaying := ⟨PySem.W.mg_of X G xg_NoSaying, xq_NoSaying, xk_NoSaying, xb_NoSaying, xt_NoSaying⟩
  have x_NoSign : ExX K mg "NoSign" C_NoSign := ⟨PySem.W.mg_of X G xg_NoSign, xq_NoSign, xk_NoSign, xb_NoSign, xt_NoSign⟩
  have x_NotOver : ExX K mg "NotOver" C_NotOver := ⟨PySem.W.mg_of X G xg_NotOver, xq_NotOver, xk_NotOver, xb_NotOver, xt_NotOver⟩
  have x_Over : ExX K mg "Over" C_Over := ⟨PySem.W.mg_of X G xg_Over, xq_Over, xk_Over, xb_Over, xt_Over⟩
  have F1 := fun_mk (st := s_is_whole) l1 c1 k1
  have b1 := F1.binds (ps := ["value", "low", "high"]) fun _ _ _ _ _ _ us hl => match us, hl with | [_, _, _], _ => rfl
  have F2 := fun_mk (st := s_check_table) l2 c2 k2
  have b2 := F2.binds (ps := ["hands", "most"]) fun _ _ _ _ _ _ us hl => match us, hl with | [_, _], _ => rfl
  have F3 := fun_mk (st := s_hearers) l3 c3 k3
  have b3 := F3.binds (ps := ["hands", "path"]) fun _ _ _ _ _ _ us hl => match us, hl with | [_, _], _ => rfl
  have F4 := fun_mk (st := s_paths) l4 c4 k4
  have b4 := F4.binds (ps := ["hands", "most"]) fun _ _ _ _ _ _ us hl => match us, hl with | [_, _], _ => rfl
  have F5 := fun_mk (st := s_parting) l5 c5 k5
  have b5 := F5.binds (ps := ["hands", "most"]) fun _ _ _ _ _ _ us hl => match us, hl with | [_, _], _ => rfl
  have F6 := fun_mk (st := s_Table___init__) l6 c6 k6
  have b6 := F6.binds (ps := ["self", "hands", "most", "sign", "liars"]) fun _ _ _ _ _ _ us hl => match us, hl with | [_, _, _, _, _], _ => rfl
  have F7 := fun_mk (st := s_parts) l7 c7 k7
  have b7 := F7.binds (ps := ["hands", "most", "sign", "liars", "lies"]) fun _ _ _ _ _ _ us hl => match us, hl with | [_, _, _, _, _], _ => rfl
  have F8 := fun_mk (st := s_law_cell_at) l8 c8 k8
  have b8 := F8.binds (ps := ["_law_script", "_law_k"]) fun _ _ _ _ _ _ us hl => match us, hl with | [_, _], _ => rfl
  have F9 := fun_mk (st := s_law_whole) l9 c9 k9
  have b9 := F9.binds (ps := ["_law_found"]) fun _ _ _ _ _ _ us hl => match us, hl with | [_], _ => rfl
  have F10 := fun_mk (st := s_law_table) l10 c10 k10
  have b10 := F10.binds (ps := ["_law_cell"]) fun _ _ _ _ _ _ us hl => match us, hl with | [_], _ => rfl
  have F11 := fun_mk (st := s_law_paths) l11 c11 k11
  have b11 := F11.binds (ps := ["_law_hands", "_law_size"]) fun _ _ _ _ _ _ us hl => match us, hl with | [_, _], _ => rfl
  have F12 := fun_mk (st := s_law_refused) l12 c12 k12
  have b12 := F12.binds (ps := ["_law_way", "_law_hands", "_law_most"]) fun _ _ _ _ _ _ us hl => match us, hl with | [_, _, _], _ => rfl
  have F13 := fun_mk (st := s_law_paths_right) l13 c13 k13
  have b13 := F13.binds (ps := ["_law_found", "_law_hands", "_law_most"]) fun _ _ _ _ _ _ us hl => match us, hl with | [_, _, _], _ => rfl
  have F14 := fun_mk (st := s_law) l14 c14 k14
  refine ⟨PySem.W.fnOf "law" "law" (defArgs s_law) (defBody s_law) (defScope s_law) .none kV14 dc14 pm14 an14 cd14 ct14, fun s v => .of_eq rfl, fun base _ _ => ?_⟩
  have c_is_whole : Cal l.prog w K mg base CX0 1 "is_whole" ["value", "low", "high"] (spWholeX K) f1 _ := ⟨ok_is_whole F1 T, PySem.W.mg_of X G a1, k1, b1⟩
  have cx_check_table : Cal l.prog w K mg base (L2.CX l.prog w) 2 "check_table" ["hands", "most"] (spCheckX K C_NoTable) f2 _ := ⟨ok_check_table F2 T x_NoTable c_is_whole, PySem.W.mg_of X G a2, k2, b2⟩
  have c_hearers : Cal l.prog w K mg base CX0 1 "hearers" ["hands", "path"] (spHear) f3 _ := ⟨ok_hearers F3 T, PySem.W.mg_of X G a3, k3, b3⟩
  have cx_paths : Cal l.prog w K mg base (L2.CX l.prog w) 3 "paths" ["hands", "most"] (spPPathsX K C_NoTable) f4 _ := ⟨ok_paths F4 T TP cx_check_table, PySem.W.mg_of X G a4, k4, b4⟩
  have cx_parting : Cal l.prog w K mg base (L2.CX l.prog w) 3 "parting" ["hands", "most"] (spBad2 K C_NoTable) f5 _ := ⟨ok_parting F5 T cx_check_table, PySem.W.mg_of X G a5, k5, b5⟩
  have fx_Table : FnOk l.prog w K mg base (L2.CX l.prog w) 3 f6 _ ["self", "hands", "most", "sign", "liars"] (spBadI K C_NoTable) := ok_Table___init__ F6 T cx_check_table
  have mk_Table : Mk K C_Table f6 := ⟨cm_Table, a6, cf_Table, ck_Table⟩
  have g_Table : mg "Table" = some (.ref C_Table) := PySem.W.mg_of X G cg_Table
  have bd_Table := b6
  have cx_parts : Cal l.prog w K mg base (L2.CX l.prog w) 5 "parts" ["hands", "most", "sign", "liars", "lies"] (spBad5 K C_NoTable) f7 _ := ⟨ok_parts F7 T mk_Table fx_Table g_Table bd_Table, PySem.W.mg_of X G a7, k7, b7⟩
  have c_law_cell_at : Cal l.prog w K mg base CX0 1 "_law_cell_at" ["_law_script", "_law_k"] (spCell K) f8 _ := ⟨ok_law_cell_at F8 T, PySem.W.mg_of X G a8, k8, b8⟩
  have c_law_whole : Cal l.prog w K mg base CX0 1 "_law_whole" ["_law_found"] (spLWhole) f9 _ := ⟨ok_law_whole F9 T, PySem.W.mg_of X G a9, k9, b9⟩
  have c_law_table : Cal l.prog w K mg base CX0 1 "_law_table" ["_law_cell"] (spTable) f10 _ := ⟨ok_law_table F10 T, PySem.W.mg_of X G a10, k10, b10⟩
  have c_law_paths : Cal l.prog w K mg base CX0 1 "_law_paths" ["_law_hands", "_law_size"] (spPaths) f11 _ := ⟨ok_law_paths F11 T, PySem.W.mg_of X G a11, k11, b11⟩
  have c_law_refused : Cal l.prog w K mg base CX0 6 "_law_refused" ["_law_way", "_law_hands", "_law_most"] (spRefused K) f12 _ := ⟨ok_law_refused F12 T cx_paths cx_parting cx_parts mk_Table fx_Table g_Table bd_Table x_NoTable x_TableError x_NoHand x_NoSaying x_NoSign x_NotOver x_Over ⟨e1, e2, xb_NoTable, e3, e4, e5, e6, e7⟩ (PySem.W.exm_ref xb_TableError e9 xt_TableError e8) kit_self (kit_ve e10) (kit_no (kit_sub n_NoHand h_NoHand xt_NoHand s_NoHand) (kit_no (kit_sub n_NoSaying h_NoSaying xt_NoSaying s_NoSaying) (kit_no (kit_sub n_NoSign h_NoSign xt_NoSign s_NoSign) (kit_no (kit_sub n_NotOver h_NotOver xt_NotOver s_NotOver) (kit_no (kit_sub n_Over h_Over xt_Over s_Over) kit_nil))))) bv, PySem.W.mg_of X G a12, k12, b12⟩
  have c_law_paths_right : Cal l.prog w K mg base CX0 2 "_law_paths_right" ["_law_found", "_law_hands", "_law_most"] (spRight K) f13 _ := ⟨ok_law_paths_right F13 T c_law_whole c_law_paths, PySem.W.mg_of X G a13, k13, b13⟩
  exact ok_law F14 T cx_paths c_hearers c_law_cell_at c_law_table c_law_refused c_law_paths_right c_law_whole
theorem walk {l : PySem.W.OpenLaw} {q : Program} {loose : List Str} {XP : (Str → Option Value) → Heap → Prop} {YP : World → Heap → Prop} {d : DefRec} {K : Params → PySem.W.Frag} (hn : l.most = some 63) (hdf : d.params.defaults = [])
    (hY : ∀ (w : World) (h : Heap), YP w h → (K w.params).In h)
    (F : ∀ (w : World) (mg : Str → Option Value) (fa : Addr) (h : Heap), (K w.params).In h → h.Ns mainGlobals mg → mg d.name = some (.ref fa) →
      ∃ fd : FuncData, (∀ (s : Shared) (u : Value), BindsTo s fd ⟨[u], []⟩ [("_law_script", u)]) ∧ ∀ base : Heap, (K w.params).In base → base.Ns mainGlobals mg → FnOk l.prog w (K w.params) mg base CX0 7 fa fd ["_law_script"] (spLaw (K w.params))) :
    PySem.W.WalkO q loose XP YP l.row.toRowW d [] (fun f vs => PySem.call f vs) :=
  L2.walk_of (n := 63) (k := 7) (x := "_law_script") (CX := fun _ => CX0) (sp := fun w => spLaw (K w.params)) hn (by decide) hdf ⟨rfl, by decide, by decide⟩ hY F (fun _ _ a ns hl _ hS => ⟨a, ns, rfl, hS, hl, fun _ => rfl⟩) fun _ _ _ _ _ z => z
end Lt
open PySem PySem.W PyProof.Rows
set_option maxRecDepth 100000 in
set_option maxHeartbeats 0 in
theorem PySem.Challenge.cw_lietable_k01_paths_holds : PySem.Challenge.rw_lietable_k01_paths.Holds := by
  w_on; o_law; k_head; (case hw => w_witness2)
  k_fill
  refine Lt.walk (l := PySem.Challenge.rw_lietable_k01_paths) rfl rfl (fun w h Y => PySem.W.kIn_of Y) ?F
  case F =>
    intro w mg fa h KX G hmg
    refine' Lt.all_mk KX G hmg ?cg_Table ?cm_Table ?ck_Table ?a1 ?l1 ?c1 ?k1 ?a2 ?l2 ?c2 ?k2 ?a3 ?l3 ?c3 ?k3 ?a4 ?l4 ?c4 ?k4 ?a5 ?l5 ?c5 ?k5 ?a6 ?l6 ?c6 ?k6 ?a7 ?l7 ?c7 ?k7 ?a8 ?l8 ?c8 ?k8 ?a9 ?l9 ?c9 ?k9 ?a10 ?l10 ?c10 ?k10 ?a11 ?l11 ?c11 ?k11 ?a12 ?l12 ?c12 ?k12 ?a13 ?l13 ?c13 ?k13 ?a14 ?l14 ?c14 ?k14 ?z_range ?z_str ?z_int ?z_bool ?z_list ?z_tuple ?z_dict ?z_set ?z_enumerate ?z_len ?z_isinstance ?z_min ?z_max ?z_sum ?z_all ?z_ValueError ?z_permutations ?xg_TableError ?xq_TableError ?xk_TableError ?xb_TableError ?xt_TableError ?xg_NoTable ?xq_NoTable ?xk_NoTable ?xb_NoTable ?xt_NoTable ?xg_NoHand ?xq_NoHand ?xk_NoHand ?xb_NoHand ?xt_NoHand ?xg_NoSaying ?xq_NoSaying ?xk_NoSaying ?xb_NoSaying ?xt_NoSaying ?xg_NoSign ?xq_NoSign ?xk_NoSign ?xb_NoSign ?xt_NoSign ?xg_NotOver ?xq_NotOver ?xk_NotOver ?xb_NotOver ?xt_NotOver ?xg_Over ?xq_Over ?xk_Over ?xb_Over ?xt_Over ?cf_Table ?e1 ?e2 ?e3 ?e4 ?e5 ?e6 ?e7 ?e8 ?e9 ?e10 ?s_NoHand ?h_NoHand ?n_NoHand ?s_NoSaying ?h_NoSaying ?n_NoSaying ?s_NoSign ?h_NoSign ?n_NoSign ?s_NotOver ?h_NotOver ?n_NotOver ?s_Over ?h_Over ?n_Over
    (case cg_Table => k_is)
    (case cm_Table => k_is)
    (case ck_Table => k_is)
    (case a1 => k_is)
    (case l1 => k_is)
    (case c1 => k_is)
    (case k1 => k_is)
    (case a2 => k_is)
    (case l2 => k_is)
    (case c2 => k_is)
    (case k2 => k_is)
    (case a3 => k_is)
    (case l3 => k_is)
    (case c3 => k_is)
    (case k3 => k_is)
    (case a4 => k_is)
    (case l4 => k_is)
    (case c4 => k_is)
    (case k4 => k_is)
    (case a5 => k_is)
    (case l5 => k_is)
    (case c5 => k_is)
    (case k5 => k_is)
    (case a6 => k_is)
    (case l6 => k_is)
    (case c6 => k_is)
    (case k6 => k_is)
    (case a7 => k_is)
    (case l7 => k_is)
    (case c7 => k_is)
    (case k7 => k_is)
    (case a8 => k_is)
    (case l8 => k_is)
    (case c8 => k_is)
    (case k8 => k_is)
    (case a9 => k_is)
    (case l9 => k_is)
    (case c9 => k_is)
    (case k9 => k_is)
    (case a10 => k_is)
    (case l10 => k_is)
    (case c10 => k_is)
    (case k10 => k_is)
    (case a11 => k_is)
    (case l11 => k_is)
    (case c11 => k_is)
    (case k11 => k_is)
    (case a12 => k_is)
    (case l12 => k_is)
    (case c12 => k_is)
    (case k12 => k_is)
    (case a13 => k_is)
    (case l13 => k_is)
    (case c13 => k_is)
    (case k13 => k_is)
    (case a14 => k_is)
    (case l14 => k_is)
    (case c14 => k_is)
    (case k14 => k_is)
    (case z_range => k_is)
    (case z_str => k_is)
    (case z_int => k_is)
    (case z_bool => k_is)
    (case z_list => k_is)
    (case z_tuple => k_is)
    (case z_dict => k_is)
    (case z_set => k_is)
    (case z_enumerate => k_is)
    (case z_len => k_is)
    (case z_isinstance => k_is)
    (case z_min => k_is)
    (case z_max => k_is)
    (case z_sum => k_is)
    (case z_all => k_is)
    (case z_ValueError => k_is)
    (case z_permutations => k_is)
    (case xg_TableError => k_is)
    (case xq_TableError => k_exc)
    (case xk_TableError => k_is)
    (case xb_TableError => k_is)
    (case xt_TableError => k_is)
    (case xg_NoTable => k_is)
    (case xq_NoTable => k_exc)
    (case xk_NoTable => k_is)
    (case xb_NoTable => k_is)
    (case xt_NoTable => k_is)
    (case xg_NoHand => k_is)
    (case xq_NoHand => k_exc)
    (case xk_NoHand => k_is)
    (case xb_NoHand => k_is)
    (case xt_NoHand => k_is)
    (case xg_NoSaying => k_is)
    (case xq_NoSaying => k_exc)
    (case xk_NoSaying => k_is)
    (case xb_NoSaying => k_is)
    (case xt_NoSaying => k_is)
    (case xg_NoSign => k_is)
    (case xq_NoSign => k_exc)
    (case xk_NoSign => k_is)
    (case xb_NoSign => k_is)
    (case xt_NoSign => k_is)
    (case xg_NotOver => k_is)
    (case xq_NotOver => k_exc)
    (case xk_NotOver => k_is)
    (case xb_NotOver => k_is)
    (case xt_NotOver => k_is)
    (case xg_Over => k_is)
    (case xq_Over => k_exc)
    (case xk_Over => k_is)
    (case xb_Over => k_is)
    (case xt_Over => k_is)
    (case cf_Table => k_is)
    (case e1 => k_is)
    (case e2 => k_is)
    (case e3 => k_is)
    (case e4 => k_is)
    (case e5 => k_is)
    (case e6 => k_is)
    (case e7 => k_is)
    (case e8 => k_is)
    (case e9 => k_is)
    (case e10 => k_is)
    (case s_NoHand => k_is)
    (case h_NoHand => k_is)
    (case n_NoHand => decide)
    (case s_NoSaying => k_is)
    (case h_NoSaying => k_is)
    (case n_NoSaying => decide)
    (case s_NoSign => k_is)
    (case h_NoSign => k_is)
    (case n_NoSign => decide)
    (case s_NotOver => k_is)
    (case h_NotOver => k_is)
    (case n_NotOver => decide)
    (case s_Over => k_is)
    (case h_Over => k_is)
    (case n_Over => decide)
#print axioms PySem.Challenge.cw_lietable_k01_paths_holds
