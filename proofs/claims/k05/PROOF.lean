import PyProof.Rows.All
import Wide.All
import OpenK.AllK
import Wide.FinOn
import HandS.ForMost
import HandS.SetFor
import HandS.IsInst
import HandS.Flow
import HandS.Style
import HandS.Conv
import HandS.OwnEq
import HandS.Strs
import HandS.AnyAll
import HandS.Walk
import HandS.More
import HandS.Star
import HandS.DictComp
import HandS.Deep
import HandS.Finally
import HandS.ExcIs
import HandS.ExcOwn
import HandS.WordsExc
import HandS.AnyAll
import HandS.EndTab
import HandS.Zip
import HandS.TupAny
import PyProof.GenCompD
import KE.GoesEnum
import KE.KDictKeyed
import KE.KDictCopyH
import KE.KTupTabMore
import HandS.HotCalls
import HandS.Dict
import PySem.Challenge.RW_lietable_k05_refused
set_option Elab.async false
set_option linter.all false
set_option maxRecDepth 100000
set_option maxHeartbeats 4000000
/-! Lt, part A: what grows, what stands; dicts by their own object. -/
namespace Lt
open PySem PySem.Spec PyProof.Rows L2

/-! ### heaps that grow -/
def isTbl : HO → Bool
  | .tbl _ => true
  | _ => false
/-- all that is tracked stands as it stood; a code table may have grown -/
structure Le (H H' : Hp) : Prop where
  ob : ∀ a o, H a = some o → isTbl o = false → H' a = some o
  tb : ∀ a ps, H a = some (.tbl ps) → ∃ qs, H' a = some (.tbl qs) ∧ (TriplesOk ps.toList → TriplesOk qs.toList)
theorem Le.refl (H : Hp) : Le H H := ⟨fun _ _ h _ => h, fun _ ps h => ⟨ps, h, id⟩⟩
theorem Le.trans {H H1 H2 : Hp} (p : Le H H1) (q : Le H1 H2) : Le H H2 :=
  ⟨fun a o h n => q.ob a o (p.ob a o h n) n, fun a ps h => by
    obtain ⟨qs, h1, t1⟩ := p.tb a ps h
    obtain ⟨rs, h2, t2⟩ := q.tb a qs h1
    exact ⟨rs, h2, fun t => t2 (t1 t)⟩⟩
theorem Le.back {H H' : Hp} (p : Le H H') {a : Addr} (h : H' a = none) : H a = none := by
  cases q : H a with
  | none => rfl
  | some o =>
    cases ht : isTbl o with
    | false =>
      rw [p.ob a o q ht] at h
      cases h
    | true =>
      cases o with
      | tbl ps =>
        obtain ⟨qs, h1, _⟩ := p.tb a ps q
        rw [h1] at h
        cases h
      | _ => cases ht
theorem Le.new {H : Hp} {p : Addr} {o : HO} (h : H p = none) : Le H (upd H p o) :=
  ⟨fun a u e _ => by rw [upd_ne (ne_of_none e h)]; exact e, fun a ps e => ⟨ps, by rw [upd_ne (ne_of_none e h)]; exact e, id⟩⟩
/-- what was not there ahead may be written -/
theorem Le.mut {H H' : Hp} {p : Addr} {o : HO} (e : Le H H') (h : H p = none) : Le H (upd H' p o) :=
  ⟨fun a u ha n => by rw [upd_ne (ne_of_none ha h)]; exact e.ob a u ha n, fun a ps ha => by rw [upd_ne (ne_of_none ha h)]; exact e.tb a ps ha⟩
theorem Le.lst {H H' : Hp} (p : Le H H') {a : Addr} {xs : List V} (h : H a = some (.lst xs)) : H' a = some (.lst xs) := p.ob a _ h rfl
theorem Le.tup {H H' : Hp} (p : Le H H') {a : Addr} {xs : List V} (h : H a = some (.tup xs)) : H' a = some (.tup xs) := p.ob a _ h rfl
theorem Le.ext {H H' : Hp} (p : Le H H') {a : Addr} {f : Heap → Prop} (h : H a = some (.ext f)) : H' a = some (.ext f) := p.ob a _ h rfl
theorem Le.ins {H H' : Hp} (p : Le H H') {a C d : Addr} {fs : List (Str × V)} (h : H a = some (.ins C d fs)) : H' a = some (.ins C d fs) := p.ob a _ h rfl
theorem Le.frz {H H' : Hp} (p : Le H H') {a : Addr} {o : Obj} {u : HO} (h : H a = some (.frz o u)) : H' a = some (.frz o u) := p.ob a _ h rfl
theorem Le.rd {H H' : Hp} (p : Le H H') {a : Addr} {u : HO} (n : isTbl u = false) (h : Rd H a u) : Rd H' a u := by
  rcases h with h | ⟨o, h⟩
  · exact .inl (p.ob a _ h n)
  · exact .inr ⟨o, p.frz h⟩
theorem Le.sql {K : PySem.W.Frag} {H H' : Hp} (p : Le H H') {a : Addr} {xs : List V} (h : SqL K H a xs) : SqL K H' a xs := by
  rcases h with h | h
  · exact .inl (p.rd rfl h)
  · exact .inr h
theorem Le.sqt {K : PySem.W.Frag} {H H' : Hp} (p : Le H H') {a : Addr} {xs : List V} (h : SqT K H a xs) : SqT K H' a xs := by
  rcases h with h | h
  · exact .inl (p.rd rfl h)
  · exact .inr h
theorem Le.same {H H' : Hp} (s : Same H H') : Le H H' := ⟨fun a o h _ => s a o h, fun a ps h => ⟨ps, s a _ h, id⟩⟩

/-! ### a thing by its very object -/
def raw (a : Addr) (o : Obj) : HO := .ext fun h => h.get? a = some o
theorem raw_ok {P : Program} {w : World} {H : Hp} {h : Heap} {a : Addr} {o : Obj} (e : h.get? a = some o) : ObjOk P w H h a (raw a o) :=
  ⟨e, ⟨o, e⟩, fun _ _ p k => k o p⟩
theorem raw_get {P : Program} {w : World} {H : Hp} {h : Heap} {a : Addr} {o : Obj} (ok : HOk P w H h) (e : H a = some (raw a o)) : h.get? a = some o := (ok a _ e).1

section
variable {X : Cx} {pins : List (Addr × Obj)} {σ : L2.St} {H : Hp} {s : Shared} {a : Addr}
/-- a tracked dict's object is replaced -/
theorem Inv.rawset {o o' : Obj} {h' : Heap} {t' : Nat} (I : Inv X pins σ H s) (e : H a = some (raw a o)) (hs : Heap.SameBut a s.heap h') (he : h'.get? a = some o') :
    Inv X pins σ (upd H a (raw a o')) { s with heap := h', toks := t' } :=
  I.write (x := a) (e := a) (by rw [e]; exact True.intro) (.inl rfl) (fun b q hb z => (hs.2 b hb).trans z) ⟨o', he⟩ (raw_ok he)
theorem Inv.rawnew {o : Obj} {h' : Heap} {t' : Nat} (I : Inv X pins σ H s) (k : ∀ b u, s.heap.get? b = some u → h'.get? b = some u) (hp : s.heap.objs.size ≤ a) (he : h'.get? a = some o) :
    Inv X pins σ (upd H a (raw a o)) { s with heap := h', toks := t' } := I.laid k hp (raw_ok he)
end
theorem nosys {X : Cx} {pins : List (Addr × Obj)} {σ : L2.St} {H : Hp} {s : Shared} (I : Inv X pins σ H s) {a : Addr} (h : s.heap.objs.size ≤ a) : (a == sysModules) = false :=
  beq_eq_false_iff_ne.mpr (Ne.symm (Nat.ne_of_lt (Nat.lt_of_lt_of_le I.big h)))

/-! ### data that never changes: a whole number, a text, nothing, a tuple of such -/
abbrev D := NestedKey
mutual
/-- the value v is the datum d -/
def At (H : Hp) : D → V → Prop
  | .none, v => v = .non
  | .num i, v => v = .int i
  | .text x, v => v = .str x
  | .tup ks, v => ∃ b xs, v = .ref b ∧ H b = some (.tup xs) ∧ Ats H ks xs
def Ats (H : Hp) : List D → List V → Prop
  | [], xs => xs = []
  | k :: ks, xs => ∃ v r, xs = v :: r ∧ At H k v ∧ Ats H ks r
end
mutual
theorem At.keep {H H' : Hp} (k : ∀ a xs, H a = some (.tup xs) → H' a = some (.tup xs)) : ∀ (d : D) (v : V), At H d v → At H' d v
  | .none, _, h => h
  | .num _, _, h => h
  | .text _, _, h => h
  | .tup ks, v, h => by
    rw [At] at h
    obtain ⟨b, xs, e, hb, hs⟩ := h
    rw [At]
    exact ⟨b, xs, e, k b xs hb, Ats.keep k ks xs hs⟩
theorem Ats.keep {H H' : Hp} (k : ∀ a xs, H a = some (.tup xs) → H' a = some (.tup xs)) : ∀ (ds : List D) (vs : List V), Ats H ds vs → Ats H' ds vs
  | [], _, h => h
  | d :: ds, vs, h => by
    rw [Ats] at h
    obtain ⟨v, r, e, h1, h2⟩ := h
    rw [Ats]
    exact ⟨v, r, e, At.keep k d v h1, Ats.keep k ds r h2⟩
end
mutual
theorem At.inj {H : Hp} : ∀ (d e : D) (v : V), At H d v → At H e v → d = e
  | .none, e, v, h1, h2 => by
    rw [At] at h1
    subst h1
    cases e with
    | none => rfl
    | num i => rw [At] at h2; cases h2
    | text x => rw [At] at h2; cases h2
    | tup ks => rw [At] at h2; obtain ⟨_, _, q, _⟩ := h2; cases q
  | .num i, e, v, h1, h2 => by
    rw [At] at h1
    subst h1
    cases e with
    | none => rw [At] at h2; cases h2
    | num j => rw [At] at h2; cases h2; rfl
    | text x => rw [At] at h2; cases h2
    | tup ks => rw [At] at h2; obtain ⟨_, _, q, _⟩ := h2; cases q
  | .text x, e, v, h1, h2 => by
    rw [At] at h1
    subst h1
    cases e with
    | none => rw [At] at h2; cases h2
    | num j => rw [At] at h2; cases h2
    | text y => rw [At] at h2; cases h2; rfl
    | tup ks => rw [At] at h2; obtain ⟨_, _, q, _⟩ := h2; cases q
  | .tup ks, e, v, h1, h2 => by
    rw [At] at h1
    obtain ⟨b, xs, q, hb, hs⟩ := h1
    subst q
    cases e with
    | none => rw [At] at h2; cases h2
    | num j => rw [At] at h2; cases h2
    | text y => rw [At] at h2; cases h2
    | tup ls =>
      rw [At] at h2
      obtain ⟨b', xs', q', hb', hs'⟩ := h2
      cases q'
      rw [hb] at hb'
      cases hb'
      rw [Ats.inj ks ls xs hs hs']
theorem Ats.inj {H : Hp} : ∀ (d e : List D) (v : List V), Ats H d v → Ats H e v → d = e
  | [], e, v, h1, h2 => by
    rw [Ats] at h1
    subst h1
    cases e with
    | nil => rfl
    | cons a as => rw [Ats] at h2; obtain ⟨_, _, q, _⟩ := h2; cases q
  | d :: ds, e, v, h1, h2 => by
    rw [Ats] at h1
    obtain ⟨x, r, q, ha, hs⟩ := h1
    subst q
    cases e with
    | nil => rw [Ats] at h2; cases h2
    | cons a as =>
      rw [Ats] at h2
      obtain ⟨x', r', q', ha', hs'⟩ := h2
      cases q'
      rw [At.inj d a x ha ha', Ats.inj ds as r hs hs']
end
theorem At.le {H H' : Hp} (l : Le H H') {d : D} {v : V} (h : At H d v) : At H' d v := At.keep (fun _ _ e => l.tup e) d v h
theorem Ats.le {H H' : Hp} (l : Le H H') {d : List D} {v : List V} (h : Ats H d v) : Ats H' d v := Ats.keep (fun _ _ e => l.tup e) d v h
theorem At.int {H : Hp} {i : Int} : At H (.num i) (.int i) := by rw [At]
theorem At.str {H : Hp} {x : Str} : At H (.text x) (.str x) := by rw [At]
theorem At.non {H : Hp} : At H .none .non := by rw [At]
theorem At.tup {H : Hp} {ks : List D} {b : Addr} {xs : List V} (hb : H b = some (.tup xs)) (h : Ats H ks xs) : At H (.tup ks) (.ref b) := by rw [At]; exact ⟨b, xs, rfl, hb, h⟩
theorem Ats.nil {H : Hp} : Ats H [] [] := by rw [Ats]
theorem Ats.cons {H : Hp} {d : D} {ds : List D} {v : V} {vs : List V} (h : At H d v) (t : Ats H ds vs) : Ats H (d :: ds) (v :: vs) := by rw [Ats]; exact ⟨v, vs, rfl, h, t⟩
theorem At.of_int {H : Hp} {i : Int} {v : V} (h : At H (.num i) v) : v = .int i := by rw [At] at h; exact h
theorem At.of_str {H : Hp} {i : Str} {v : V} (h : At H (.text i) v) : v = .str i := by rw [At] at h; exact h
theorem At.of_non {H : Hp} {v : V} (h : At H .none v) : v = .non := by rw [At] at h; exact h
theorem At.of_tup {H : Hp} {ks : List D} {v : V} (h : At H (.tup ks) v) : ∃ b xs, v = .ref b ∧ H b = some (.tup xs) ∧ Ats H ks xs := by rw [At] at h; exact h
theorem Ats.of_nil {H : Hp} {vs : List V} (h : Ats H [] vs) : vs = [] := by rw [Ats] at h; exact h
theorem Ats.of_cons {H : Hp} {d : D} {ds : List D} {vs : List V} (h : Ats H (d :: ds) vs) : ∃ v r, vs = v :: r ∧ At H d v ∧ Ats H ds r := by rw [Ats] at h; exact h
theorem Ats.length {H : Hp} : ∀ {ds : List D} {vs : List V}, Ats H ds vs → vs.length = ds.length
  | [], _, h => by rw [h.of_nil]; rfl
  | d :: ds, _, h => by
    obtain ⟨v, r, e, _, t⟩ := h.of_cons
    rw [e, List.length_cons, List.length_cons, Ats.length t]
theorem Ats.get {H : Hp} : ∀ {ds : List D} {vs : List V} {i : Nat} {d : D}, Ats H ds vs → ds[i]? = some d → ∃ v, vs[i]? = some v ∧ At H d v
  | [], _, _, _, _, e => by simp at e
  | d :: ds, _, i, k, h, e => by
    obtain ⟨v, r, q, h1, t⟩ := h.of_cons
    subst q
    cases i with
    | zero =>
      simp at e
      subst e
      exact ⟨v, rfl, h1⟩
    | succ i =>
      obtain ⟨u, hu, a⟩ := Ats.get (i := i) t (by simpa using e)
      exact ⟨u, by simpa using hu, a⟩
theorem Ats.get' {H : Hp} : ∀ {ds : List D} {vs : List V} {i : Nat} {v : V}, Ats H ds vs → vs[i]? = some v → ∃ d, ds[i]? = some d ∧ At H d v
  | [], _, _, _, h, e => by rw [h.of_nil] at e; simp at e
  | d :: ds, _, i, k, h, e => by
    obtain ⟨v, r, q, h1, t⟩ := h.of_cons
    subst q
    cases i with
    | zero =>
      simp at e
      subst e
      exact ⟨d, rfl, h1⟩
    | succ i =>
      obtain ⟨u, hu, a⟩ := Ats.get' (i := i) t (by simpa using e)
      exact ⟨u, by simpa using hu, a⟩
theorem Ats.app {H : Hp} : ∀ {ds es : List D} {vs us : List V}, Ats H ds vs → Ats H es us → Ats H (ds ++ es) (vs ++ us)
  | [], _, _, _, h, t => by rw [h.of_nil]; exact t
  | d :: ds, es, _, us, h, t => by
    obtain ⟨v, r, q, h1, h2⟩ := h.of_cons
    subst q
    exact Ats.cons h1 (Ats.app h2 t)
theorem Ats.take {H : Hp} : ∀ (n : Nat) {ds : List D} {vs : List V}, Ats H ds vs → Ats H (ds.take n) (vs.take n)
  | 0, _, _, _ => Ats.nil
  | n + 1, [], _, h => by rw [h.of_nil]; exact Ats.nil
  | n + 1, d :: ds, _, h => by
    obtain ⟨v, r, q, h1, h2⟩ := h.of_cons
    subst q
    exact Ats.cons h1 (Ats.take n h2)
theorem Ats.drop {H : Hp} : ∀ (n : Nat) {ds : List D} {vs : List V}, Ats H ds vs → Ats H (ds.drop n) (vs.drop n)
  | 0, _, _, h => h
  | n + 1, [], _, h => by rw [h.of_nil]; exact Ats.nil
  | n + 1, d :: ds, _, h => by
    obtain ⟨v, r, q, h1, h2⟩ := h.of_cons
    subst q
    exact Ats.drop n h2
/-- the leaves are their own values -/
theorem Ats.ints {H : Hp} : ∀ {ns : List Int} {vs : List V}, Ats H (ns.map .num) vs → vs = ns.map .int
  | [], _, h => h.of_nil
  | n :: ns, _, h => by
    obtain ⟨v, r, q, h1, h2⟩ := Ats.of_cons h
    rw [q, h1.of_int, Ats.ints h2]
    rfl
theorem ats_ints {H : Hp} : ∀ (ns : List Int), Ats H (ns.map .num) (ns.map .int)
  | [] => Ats.nil
  | n :: ns => Ats.cons At.int (ats_ints ns)

/-! ### the data in the heap itself -/
mutual
theorem At.isk {P : Program} {w : World} {H : Hp} {h : Heap} (ok : HOk P w H h) : ∀ (d : D) (v : V) (u : Value), At H d v → RelV v u → NestedIs h d u
  | .none, _, _, a, r => by
    rw [a.of_non] at r
    cases r
    exact .none
  | .num i, _, _, a, r => by
    rw [a.of_int] at r
    obtain ⟨t, e⟩ := (show ∃ t, _ = Value.int i t from r)
    rw [e]
    exact .int i t
  | .text x, _, _, a, r => by
    rw [a.of_str] at r
    obtain ⟨t, e⟩ := (show ∃ t, _ = Value.str x t from r)
    rw [e]
    exact .text x t
  | .tup ks, _, _, a, r => by
    obtain ⟨b, xs, e, hb, hs⟩ := a.of_tup
    rw [e] at r
    cases r
    obtain ⟨_, its, rv, o, h1, h2, n, h3⟩ := (show ObjOk P w H h b (.tup xs) from ok b _ hb)
    exact .tup h1 h2 h3 (by simpa using Ats.isk ok ks xs its hs rv)
theorem Ats.isk {P : Program} {w : World} {H : Hp} {h : Heap} (ok : HOk P w H h) : ∀ (ds : List D) (vs : List V) (us : List Value), Ats H ds vs → Vals vs us → NestedAll h ds us
  | [], _, _, a, r => by
    rw [a.of_nil] at r
    cases r
    exact .nil
  | d :: ds, _, _, a, r => by
    obtain ⟨v, rs, e, h1, h2⟩ := a.of_cons
    rw [e] at r
    cases r with
    | cons r1 r2 => exact .cons (At.isk ok d v _ h1 r1) (Ats.isk ok ds rs _ h2 r2)
end
end Lt

/-! Lt, part B: dicts by their own object: keys that are leaves, keys that are tuples. -/
namespace Lt
open PySem PySem.Spec PyProof.Rows L2

/-! ### keys: nothing and texts -/
def lf : Option Str → Leaf
  | none => .none
  | some x => .text x
def sg : Option Str → V
  | none => .non
  | some x => .str x
theorem lf_inj {a b : Option Str} (h : lf a = lf b) : a = b := by
  cases a <;> cases b <;> first | rfl | (injection h with h; rw [h]) | cases h
theorem sg_inj {a b : Option Str} (h : sg a = sg b) : a = b := by
  cases a <;> cases b <;> first | rfl | (injection h with h; rw [h]) | cases h
theorem sg_is {P : Program} {w : World} {k : Option Str} {u : Value} (r : RelV (sg k) u) : (leafKind P w).is (lf k) u = true := by
  cases k with
  | none =>
    cases r
    exact leaf_none
  | some x =>
    obtain ⟨t, e⟩ := (show ∃ t, u = Value.str x t from r)
    rw [e]
    exact leaf_str x t
theorem is_sg {P : Program} {w : World} {k : Option Str} {u : Value} (r : (leafKind P w).is (lf k) u = true) : RelV (sg k) u := by
  cases k with
  | none =>
    have q := Leaf.nested (h := default) (show Leaf.isOf (lf none) u = true from r)
    cases q
    exact rfl
  | some x =>
    have q := Leaf.nested (h := default) (show Leaf.isOf (lf (some x)) u = true from r)
    cases q with
    | text _ t => exact ⟨t, rfl⟩

def lfs (kvs : List (Option Str × V)) : List (Leaf × V) := kvs.map fun p => (lf p.1, p.2)
theorem valV_lfs (k : Option Str) : ∀ kvs : List (Option Str × V), valV (lfs kvs) (lf k) = valV kvs k
  | [] => rfl
  | p :: r => by
    have ih := valV_lfs k r
    show valV ((lf p.1, p.2) :: lfs r) (lf k) = valV (p :: r) k
    by_cases e : p.1 = k
    · rw [valV_pos e, valV_pos (p := (lf p.1, p.2)) (by rw [e])]
    · rw [valV_neg e, valV_neg (p := (lf p.1, p.2)) (fun z => e (lf_inj z)), ih]
theorem putK_lfs (k : Option Str) (v : V) (kvs : List (Option Str × V)) : putK (lfs kvs) (lf k) v = lfs (putK kvs k v) := by
  have e : ((lfs kvs).any fun kv => decide (kv.1 = lf k)) = kvs.any fun kv => decide (kv.1 = k) := by
    rw [valV_any, valV_any, valV_lfs]
  unfold putK
  rw [e]
  by_cases q : (kvs.any fun kv => decide (kv.1 = k)) = true
  · rw [if_pos q, if_pos q]
    unfold lfs
    rw [List.map_map, List.map_map]
    refine List.map_congr_left fun p _ => ?_
    show (if lf p.1 = lf k then (lf p.1, v) else (lf p.1, p.2)) = (lf (if p.1 = k then (p.1, v) else p).1, (if p.1 = k then (p.1, v) else p).2)
    by_cases z : p.1 = k
    · rw [if_pos z, if_pos (by rw [z])]
    · rw [if_neg z, if_neg (fun y => z (lf_inj y))]
  · rw [if_neg q, if_neg q]
    unfold lfs
    rw [List.map_append]
    rfl

/-- the object is a dict with these keys and values -/
def IsLD (P : Program) (w : World) (o : Obj) (kvs : List (Option Str × V)) : Prop :=
  kvs.length ≤ sizeLine ∧ ∃ es ep vs, o.ExactDict ∧ o.data = .dict es ep ∧ KeysOf (leafKind P w) es ∧ Pairs (leafKind P w) es.toList vs ∧ (vs.map (·.1)).Nodup ∧ KV (lfs kvs) vs
def LD (P : Program) (w : World) (H : Hp) (a : Addr) (kvs : List (Option Str × V)) : Prop := (a == sysModules) = false ∧ ∃ o, H a = some (raw a o) ∧ IsLD P w o kvs
theorem LD.le {P : Program} {w : World} {H H' : Hp} {a : Addr} {kvs : List (Option Str × V)} (h : LD P w H a kvs) (l : Le H H') : LD P w H' a kvs :=
  let ⟨y, o, e, i⟩ := h; ⟨y, o, l.ext e, i⟩

/-! ### keys: tuples of data -/
/-- entries: the keys' own tuples at the addresses -/
def Ent (H : Hp) : List (D × V) → List (D × Addr × Value) → Prop := Paired fun p q => p.1 = q.1 ∧ (At H p.1 (.ref q.2.1) ∧ p.1.depth ≤ 8) ∧ RelV p.2 q.2.2
def IsND (P : Program) (w : World) (H : Hp) (o : Obj) (kvs : List (D × V)) : Prop :=
  kvs.length ≤ sizeLine ∧ ∃ es ep xs, o.ExactDict ∧ o.data = .dict es ep ∧ es.toList = xs.map (entryOfKey (nestedKind P w)) ∧ (xs.map (·.1)).Nodup ∧ Ent H kvs xs
def ND (P : Program) (w : World) (H : Hp) (a : Addr) (kvs : List (D × V)) : Prop := (a == sysModules) = false ∧ ∃ o, H a = some (raw a o) ∧ IsND P w H o kvs
/-- the tuples stand -/
def Tups (H H' : Hp) : Prop := ∀ a xs, H a = some (.tup xs) → H' a = some (.tup xs)
theorem Le.tups {H H' : Hp} (l : Le H H') : Tups H H' := fun _ _ e => l.tup e
theorem Tups.trans {H H1 H2 : Hp} (a : Tups H H1) (b : Tups H1 H2) : Tups H H2 := fun p xs e => b p xs (a p xs e)
theorem Tups.refl (H : Hp) : Tups H H := fun _ _ e => e
/-- what is no tuple may be written -/
theorem tups_upd {H : Hp} {a : Addr} {o u : HO} (h : H a = some o) (n : ∀ xs, o ≠ .tup xs) : Tups H (upd H a u) := fun b xs e => by
  rw [upd_ne (ne_of e h (fun z => n xs z.symm))]
  exact e
theorem tups_new {H : Hp} {a : Addr} {u : HO} (h : H a = none) : Tups H (upd H a u) := fun b xs e => by
  rw [upd_ne (ne_of_none e h)]
  exact e
theorem At.tp {H H' : Hp} (l : Tups H H') {d : D} {v : V} (h : At H d v) : At H' d v := At.keep l d v h
theorem Ats.tp {H H' : Hp} (l : Tups H H') {d : List D} {v : List V} (h : Ats H d v) : Ats H' d v := Ats.keep l d v h
theorem Ent.tp {H H' : Hp} (l : Tups H H') {kvs : List (D × V)} {xs : List (D × Addr × Value)} (r : Ent H kvs xs) : Ent H' kvs xs :=
  Paired.mapP r fun _ _ z => ⟨z.1, ⟨z.2.1.1.tp l, z.2.1.2⟩, z.2.2⟩
theorem IsND.tp {P : Program} {w : World} {H H' : Hp} (l : Tups H H') {o : Obj} {kvs : List (D × V)} (h : IsND P w H o kvs) : IsND P w H' o kvs :=
  let ⟨z, es, ep, xs, h1, h2, h3, h4, r⟩ := h; ⟨z, es, ep, xs, h1, h2, h3, h4, r.tp l⟩
theorem ND.at {P : Program} {w : World} {H H' : Hp} {a : Addr} {kvs : List (D × V)} (h : ND P w H a kvs) (l : Tups H H') (e : ∀ o, H a = some (raw a o) → H' a = some (raw a o)) : ND P w H' a kvs :=
  let ⟨y, o, q, i⟩ := h; ⟨y, o, e o q, i.tp l⟩
theorem ND.le {P : Program} {w : World} {H H' : Hp} {a : Addr} {kvs : List (D × V)} (h : ND P w H a kvs) (l : Le H H') : ND P w H' a kvs := h.at l.tups fun _ e => l.ext e

theorem Ent.val {H : Hp} {kvs : List (D × V)} {xs : List (D × Addr × Value)} (r : Ent H kvs xs) (k : D) : RelO (valV kvs k) ((atKey xs k).map (·.2)) := by
  unfold Ent at r
  induction r with
  | nil => exact True.intro
  | @cons p q ps qs h t ih =>
    obtain ⟨h1, _, h2⟩ := h
    by_cases e : p.1 = k
    · have e' : q.1 = k := h1.symm.trans e
      have b : atKey (q :: qs) k = some q.2 := by simp [atKey, List.find?_cons, e']
      rw [valV_pos e, b]
      exact h2
    · have e' : ¬ q.1 = k := fun z => e (h1.trans z)
      have b : atKey (q :: qs) k = atKey qs k := by simp [atKey, List.find?_cons, e']
      rw [valV_neg e, b]
      exact ih
theorem Ent.repl {H : Hp} {kvs : List (D × V)} {xs : List (D × Addr × Value)} (r : Ent H kvs xs) (k : D) {y : V} {u : Value} (ry : RelV y u) :
    Ent H (kvs.map fun kv => if kv.1 = k then (kv.1, y) else kv) (xs.map (putAt k u)) := by
  unfold Ent at r ⊢
  induction r with
  | nil => exact .nil
  | @cons p q ps qs h t ih =>
    rw [List.map_cons, List.map_cons]
    refine .cons ?_ ih
    obtain ⟨h1, h2, h3⟩ := h
    unfold putAt
    by_cases e : p.1 = k
    · rw [if_pos e, if_pos (h1.symm.trans e)]
      exact ⟨h1, h2, ry⟩
    · rw [if_neg e, if_neg (fun z => e (h1.trans z))]
      exact ⟨h1, h2, h3⟩
theorem Ent.put {H : Hp} {kvs : List (D × V)} {xs : List (D × Addr × Value)} (r : Ent H kvs xs) {k : D} {b : Addr} {y : V} {u : Value} (hb : At H k (.ref b)) (hd : k.depth ≤ 8) (ry : RelV y u) :
    Ent H (putK kvs k y) (storedH xs k b u) := by
  have e : (kvs.any fun kv => decide (kv.1 = k)) = (atKey xs k).isSome := by
    rw [valV_any, (r.val k).isSome_eq, Option.isSome_map]
  unfold putK storedH
  rw [e]
  by_cases q : (atKey xs k).isSome = true
  · rw [if_pos q, if_pos q]
    exact r.repl k ry
  · rw [if_neg q, if_neg q]
    exact Paired.snoc r ⟨rfl, ⟨hb, hd⟩, ry⟩
theorem Ent.length {H : Hp} {kvs : List (D × V)} {xs : List (D × Addr × Value)} (r : Ent H kvs xs) : kvs.length = xs.length := Paired.length r
theorem Ent.get {H : Hp} {kvs : List (D × V)} {xs : List (D × Addr × Value)} (r : Ent H kvs xs) : ∀ {i : Nat} {p : D × V}, kvs[i]? = some p → ∃ q, xs[i]? = some q ∧ p.1 = q.1 ∧ (At H p.1 (.ref q.2.1) ∧ p.1.depth ≤ 8) ∧ RelV p.2 q.2.2 := by
  unfold Ent at r
  induction r with
  | nil =>
    intro i p e
    simp at e
  | @cons p q ps qs h t ih =>
    intro i p' e
    cases i with
    | zero =>
      simp at e
      subst e
      exact ⟨q, rfl, h⟩
    | succ i =>
      obtain ⟨q', h1, h2⟩ := ih (by simpa using e)
      exact ⟨q', by simpa using h1, h2⟩
theorem Ent.keys {H : Hp} {kvs : List (D × V)} {xs : List (D × Addr × Value)} (r : Ent H kvs xs) : kvs.map (·.1) = xs.map (·.1) := by
  unfold Ent at r
  induction r with
  | nil => rfl
  | cons h t ih => rw [List.map_cons, List.map_cons, ih, h.1]

section
variable {P : Program} {w : World} {H : Hp} {h : Heap} {a : Addr}
theorem LD.dict {kvs : List (Option Str × V)} (ok : HOk P w H h) (e : LD P w H a kvs) : kvs.length ≤ sizeLine ∧ (a == sysModules) = false ∧ ∃ vs, KV (lfs kvs) vs ∧ h.DictOf (leafKind P w) a vs := by
  obtain ⟨y, o, ho, z, es, ep, vs, h1, h2, h3, h4, h5, r⟩ := e
  exact ⟨z, y, vs, r, o, es, ep, raw_get ok ho, h1, h2, h3, h4, h5⟩
theorem ent_is {kvs : List (D × V)} {xs : List (D × Addr × Value)} (ok : HOk P w H h) (r : Ent H kvs xs) : ∀ x ∈ xs, (nestedKind P w).is h x.1 x.2.1 := by
  intro x hx
  obtain ⟨i, hi⟩ := List.mem_iff_getElem?.mp hx
  have hl : i < kvs.length := by
    rw [r.length]
    exact (List.getElem?_eq_some_iff.mp hi).1
  obtain ⟨q, hq, e, ⟨h1, h2⟩, _⟩ := r.get (List.getElem?_eq_getElem hl)
  rw [hi] at hq
  cases hq
  rw [← e]
  exact ⟨At.isk ok _ _ _ h1 rfl, h2⟩
theorem key_is {k : D} {b : Addr} (ok : HOk P w H h) (a : At H k (.ref b)) (hd : k.depth ≤ 8) : (nestedKind P w).is h k b := ⟨At.isk ok _ _ _ a rfl, hd⟩
theorem ND.dict {kvs : List (D × V)} (ok : HOk P w H h) (e : ND P w H a kvs) : kvs.length ≤ sizeLine ∧ (a == sysModules) = false ∧ ∃ xs, Ent H kvs xs ∧ h.DictOfH (nestedKind P w) a xs := by
  obtain ⟨y, o, ho, z, es, ep, xs, h1, h2, h3, h4, r⟩ := e
  exact ⟨z, y, xs, r, o, es, ep, raw_get ok ho, h1, h2, h3, ent_is ok r, h4⟩
theorem ND.nodup {kvs : List (D × V)} (e : ND P w H a kvs) : (kvs.map (·.1)).Nodup := by
  obtain ⟨y, o, ho, z, es, ep, xs, h1, h2, h3, h4, r⟩ := e
  rw [r.keys]
  exact h4
end

/-! ### what is found at a key, what stands behind a store -/
def DG (P : Program) (w : World) (H : Hp) (a : Addr) (y : V) (r : Option V) : Prop :=
  (∃ kvs k, LD P w H a kvs ∧ y = sg k ∧ r = valV kvs k) ∨ ∃ kvs k b, ND P w H a kvs ∧ y = .ref b ∧ At H k y ∧ k.depth ≤ 8 ∧ r = valV kvs k
/-- the dict at a holds y: v, all else stands -/
def DP (P : Program) (w : World) (H : Hp) (a : Addr) (y v : V) (R : Hp → Prop) : Prop :=
  (∃ kvs k, LD P w H a kvs ∧ y = sg k ∧ kvs.length < sizeLine ∧ ∀ o, IsLD P w o (putK kvs k v) → R (upd H a (raw a o))) ∨
  ∃ kvs k b, ND P w H a kvs ∧ y = .ref b ∧ At H k y ∧ k.depth ≤ 8 ∧ kvs.length < sizeLine ∧ ∀ o, IsND P w H o (putK kvs k v) → R (upd H a (raw a o))

section
variable {X : Cx} {pins : List (Addr × Obj)} {σ : L2.St} {H : Hp} {s : Shared} {a : Addr} {y v d : V} {u r : Value} {o : Option V} {A : Around} {E : Value → Shared → Prop}
theorem room8 {A : Around} (hu : A.units + 64 < cLine) : (nestedKind X.prog X.w).room A.in1 := by
  show A.units + 1 + 8 < cLine
  omega
theorem dg_getItem {Q : Value → Shared → Prop} (hu : A.units + 64 < cLine) (I : Inv X pins σ H s) (g : DG X.prog X.w H a y (some v)) (ry : RelV y u) (h : ∀ w' s', Inv X pins σ H s' → RelV v w' → Q w' s') :
    wpAny (model X.prog X.w) A (getItem (.ref a) u) Q E s := by
  rcases g with ⟨kvs, k, e, ey, l⟩ | ⟨kvs, k, b, e, ey, ak, hd, l⟩
  · subst ey
    obtain ⟨z, hs, vs, rel, dd⟩ := e.dict I.hok
    obtain ⟨w', hw, rw'⟩ := RelO.some_of (v := v) (o := valueAt vs (lf k)) (by rw [l, ← valV_lfs]; exact rel.val (lf k))
    exact wpAny_getItem_of (sg_is ry) dd.mapOf hw (h w' _ (I.tok _) rw')
  · subst ey
    cases (show u = Value.ref b from ry)
    obtain ⟨z, hs, xs, rel, dd⟩ := e.dict I.hok
    obtain ⟨w', hw, rw'⟩ := RelO.some_of (v := v) (o := (atKey xs k).map (·.2)) (by rw [l]; exact rel.val k)
    obtain ⟨p, hp, hp2⟩ := Option.map_eq_some_iff.mp hw
    refine wpAny_getItem_heap (room8 hu) (key_is I.hok ak hd) dd hp ?_
    rw [hp2]
    exact h w' _ (I.tok _) rw'
theorem dg_get2 {Q : Value → Shared → Prop} (hu : A.units + 64 < cLine) (I : Inv X pins σ H s) (g : DG X.prog X.w H a y o) (ry : RelV y u) (rd : RelV d r) (h : ∀ w' s', Inv X pins σ H s' → RelV (o.getD d) w' → Q w' s') :
    wpAny (model X.prog X.w) A (call (.builtin "dict.get") [.ref a, u, r]) Q E s := by
  rcases g with ⟨kvs, k, e, ey, l⟩ | ⟨kvs, k, b, e, ey, ak, hd, l⟩
  · subst ey
    obtain ⟨z, hs, vs, rel, dd⟩ := e.dict I.hok
    refine call_meetsIn PySem.F.slot_dict_get dd.typeIs PySem.F.entry_dict_get (PySem.F.args_dict_get_3 _ _ _) (meets_dict_get_default (leafKind X.prog X.w) a (sg_is ry) hs r) ⟨_, dd.mapOf, h _ _ (I.tok _) ?_⟩
    rw [l, ← valV_lfs]
    exact (rel.val (lf k)).getD rd
  · subst ey
    cases (show u = Value.ref b from ry)
    obtain ⟨z, hs, xs, rel, dd⟩ := e.dict I.hok
    refine call_meetsIn PySem.F.slot_dict_get dd.typeIs PySem.F.entry_dict_get (PySem.F.args_dict_get_3 _ _ _) (meetsH_dict_get_default (nestedKind X.prog X.w) a b hs r) ⟨room8 hu, k, xs, key_is I.hok ak hd, dd, h _ _ (I.tok _) ?_⟩
    rw [l]
    exact (rel.val k).getD rd
theorem isLD_of {P : Program} {w : World} {h' : Heap} {kvs : List (Option Str × V)} {vs : List (Leaf × Value)} (z : kvs.length ≤ sizeLine) (rel : KV (lfs kvs) vs) (dd : h'.DictOf (leafKind P w) a vs) : ∃ o, h'.get? a = some o ∧ IsLD P w o kvs := by
  obtain ⟨o, es, ep, h1, h2, h3, h4, h5, h6⟩ := dd
  exact ⟨o, h1, z, es, ep, vs, h2, h3, h4, h5, h6, rel⟩
theorem isND_of {P : Program} {w : World} {h' : Heap} {kvs : List (D × V)} {xs : List (D × Addr × Value)} (z : kvs.length ≤ sizeLine) (rel : Ent H kvs xs) (dd : h'.DictOfH (nestedKind P w) a xs) : ∃ o, h'.get? a = some o ∧ IsND P w H o kvs := by
  obtain ⟨o, es, ep, h1, h2, h3, h4, _, h6⟩ := dd
  exact ⟨o, h1, z, es, ep, xs, h2, h3, h4, h6, rel⟩
theorem dp_setItem {R : Hp → Prop} {Q : Unit → Shared → Prop} (hu : A.units + 64 < cLine) (I : Inv X pins σ H s) (g : DP X.prog X.w H a y v R) (ry : RelV y u) (rv : RelV v r) (h : ∀ H' s', Inv X pins σ H' s' → R H' → Q () s') :
    wpAny (model X.prog X.w) A (setItem (.ref a) u r) Q E s := by
  rcases g with ⟨kvs, k, e, ey, l, kR⟩ | ⟨kvs, k, b, e, ey, ak, hd, l, kR⟩
  · subst ey
    obtain ⟨_, o0, e0, _⟩ := id e
    obtain ⟨z, hs, vs, rel, dd⟩ := e.dict I.hok
    have hz : vs.length ≤ sizeLine := by
      rw [← rel.length]
      unfold lfs
      rw [List.length_map]
      exact z
    have hl : (putK kvs k v).length ≤ sizeLine := by have := length_putK kvs k v; omega
    refine wpAny_setItem_pairs (hsz := hz) (sg_is ry) dd fun h' dd' hsb => ?_
    obtain ⟨o, ho, i⟩ := isLD_of hl (by rw [← putK_lfs]; exact rel.put (lf k) rv) dd'
    exact h _ _ (Inv.rawset I e0 hsb ho) (kR o i)
  · subst ey
    cases (show u = Value.ref b from ry)
    obtain ⟨_, o0, e0, _⟩ := id e
    obtain ⟨z, hs, xs, rel, dd⟩ := e.dict I.hok
    have hz : xs.length ≤ sizeLine := by rw [← rel.length]; exact z
    have hl : (putK kvs k v).length ≤ sizeLine := by have := length_putK kvs k v; omega
    refine wpAny_setItem_heap (hsz := hz) (room8 hu) (key_is I.hok ak hd) dd fun h' dd' hsb => ?_
    obtain ⟨o, ho, i⟩ := isND_of (H := H) hl (rel.put ak hd rv) dd'
    exact h _ _ (Inv.rawset I e0 hsb ho) (kR o i)
theorem dg_typeIs (I : Inv X pins σ H s) (g : DG X.prog X.w H a y o) : s.TypeIs (.ref a) "dict" := by
  rcases g with ⟨kvs, k, e, _, _⟩ | ⟨kvs, k, b, e, _⟩
  · obtain ⟨_, _, vs, _, dd⟩ := e.dict I.hok
    exact dd.typeIs
  · obtain ⟨_, _, xs, _, dd⟩ := e.dict I.hok
    exact dd.typeIs
end

/-- a is a dict tracked by its object -/
def IsDict (H : Hp) (a : Addr) : Prop := ∃ o es ep, H a = some (raw a o) ∧ o.ExactDict ∧ o.data = .dict es ep ∧ (a == sysModules) = false
theorem LD.isDict {P : Program} {w : World} {H : Hp} {a : Addr} {kvs : List (Option Str × V)} (e : LD P w H a kvs) : IsDict H a := by
  obtain ⟨y, o, ho, z, es, ep, vs, h1, h2, _⟩ := e
  exact ⟨o, es, ep, ho, h1, h2, y⟩
theorem ND.isDict {P : Program} {w : World} {H : Hp} {a : Addr} {kvs : List (D × V)} (e : ND P w H a kvs) : IsDict H a := by
  obtain ⟨y, o, ho, z, es, ep, vs, h1, h2, _⟩ := e
  exact ⟨o, es, ep, ho, h1, h2, y⟩
theorem isDict_at {X : Cx} {pins : List (Addr × Obj)} {σ : L2.St} {H : Hp} {s : Shared} {a : Addr} (I : Inv X pins σ H s) (d : IsDict H a) :
    s.TypeIs (.ref a) "dict" ∧ (∀ b, Value.ref a = .ref b → ∃ ob, s.heap.get? b = some ob ∧ ob.dict = none) ∧ (a == sysModules) = false ∧ ∃ es ep, s.heap.DictRaw a es ep := by
  obtain ⟨o, es, ep, ho, hc, hd, y⟩ := d
  have hg := raw_get I.hok ho
  refine ⟨⟨o, hg, hc.1⟩, fun b q => ?_, y, es, ep, o, hg, hc, hd⟩
  cases q
  exact ⟨o, hg, hc.2.1⟩

/-! ### readings and rules -/
def tNGet (P : Program) (w : World) (td ty : TE) : TE := fun σ H Q => td σ H fun x H1 => ty σ H1 fun y H2 => ∃ a v, x = .ref a ∧ DG P w H2 a y (some v) ∧ Q v H2
def sNPut (P : Program) (w : World) (td ty tv : TE) : TS := fun D σ H => tv σ H fun v H1 => td σ H1 fun x H2 => ty σ H2 fun y H3 => ∃ a, x = .ref a ∧ DP P w H3 a y v (D.nx σ)
def tNGet2 (P : Program) (w : World) (td ty tx : TE) : TE := fun σ H Q => td σ H fun x H1 => ∃ a, x = .ref a ∧ IsDict H1 a ∧ ty σ H1 fun y H2 => tx σ H2 fun z H3 => ∃ o, DG P w H3 a y o ∧ Q (o.getD z) H3
/-- {} -/
def newD : Obj := { cls := .type "dict", data := .dict #[] }
def tNNew : TE := fun _ H Q => ∀ p, H p = none → (p == sysModules) = false → Q (.ref p) (upd H p (raw p newD))
theorem newD_LD (P : Program) (w : World) : IsLD P w newD [] := by
  obtain ⟨o, es, ep, h1, h2, h3, h4, h5, h6⟩ := Heap.DictOf.new (knd := leafKind P w) (default : Heap)
  rw [Heap.get?_push_size _ rfl] at h1
  cases h1
  exact ⟨Nat.zero_le _, es, ep, [], h2, h3, h4, h5, h6, .nil⟩
theorem newD_ND (P : Program) (w : World) (H : Hp) : IsND P w H newD [] := ⟨Nat.zero_le _, #[], 0, [], ⟨rfl, rfl, rfl⟩, rfl, rfl, List.nodup_nil, .nil⟩
section
variable {X : Cx} {o i e f value : Expr} {pos pos' tpos apos cpos : Pos} {td ty tv tx : TE}
theorem pe_nget (hu : X.A.units + 64 < cLine) (ho : PE X o td) (hi : PE X i ty) (hs : NoSl i) : PE X (.Subscript o i pos) (tNGet X.prog X.w td ty) := by
  refine ⟨fun pins s σ H Q I h => ?_⟩
  refine subD_of PySem.F.slot_dict_getitem.lookup hs (thn (ho.run pins s σ H _ I h) fun u s1 ⟨x, H1, I1, rx, q1⟩ => thn (hi.run pins s1 σ H1 _ I1 q1) fun iv s2 ⟨y, H2, I2, ry, a, v, ex, g, q2⟩ => ?_)
  subst ex
  obtain rfl : u = Value.ref a := rx
  exact ⟨dg_typeIs I2 g, dg_getItem hu I2 g ry fun w' s3 I3 rw' => ⟨v, H2, I3, rw', q2⟩⟩
theorem ps_nput (hu : X.A.units + 64 < cLine) (ho : PE X o td) (hi : PE X i ty) (hv : PE X value tv) (hs : swapsWith value (some (.Subscript o i pos')) pos.line X.env = pure false) :
    PS X (.Assign [.Subscript o i pos'] value pos) (sNPut X.prog X.w td ty tv) := by
  refine ⟨fun pins s σ H D I h => ?_⟩
  refine wpAny_Assign_Subscript (thn (hv.run pins s σ H _ I h) fun r s1 ⟨v, H1, I1, rv, q1⟩ => thn (ho.run pins s1 σ H1 _ I1 q1) fun u s2 ⟨x, H2, I2, rx, q2⟩ => thn (hi.run pins s2 σ H2 _ I2 q2) fun iv s3 ⟨y, H3, I3, ry, a, ex, g⟩ => ?_) hs
  subst ex
  obtain rfl : u = Value.ref a := rx
  exact dp_setItem hu I3 g ry rv fun H4 s4 I4 q => ⟨σ, H4, I4, q⟩
theorem pe_nget2 (hu : X.A.units + 64 < cLine) (ho : PE X o td) (he : PE X e ty) (hf : PE X f tx) (m : M2 X o "get" apos e f cpos) : PE X (.Call (.Attribute o "get" apos) [e, f] [] cpos) (tNGet2 X.prog X.w td ty tx) := by
  refine ⟨fun pins s σ H Q I h => ?_⟩
  refine wpAny_Call_method m.base m.few m.line PySem.F.plainAttrs_dict PySem.F.slot_dict_get PySem.F.type_dict_get (thn (ho.run pins s σ H _ I h) fun u s1 ⟨x, H1, I1, rx, a, ex, d, q1⟩ => ?_)
  subst ex
  obtain rfl : u = Value.ref a := rx
  obtain ⟨t1, t2, _⟩ := isDict_at I1 d
  refine ⟨t1, t2, ?_⟩
  rw [m.trees]
  refine Calls.callWith_builtin rfl (Calls.evalArgs_plain (Calls.spliced_cons (thn (he.run pins s1 σ H1 _ I1 q1) fun iv s2 ⟨y, H2, I2, ry, q2⟩ =>
    Calls.spliced_cons (thn (hf.run pins s2 σ H2 _ I2 q2) fun fv s3 ⟨z, H3, I3, rz, ov, g, q3⟩ => Calls.spliced_nil ?_))))
  exact dg_get2 hu I3 g ry rz fun w' s4 I4 rw' => ⟨_, H3, I4, rw', q3⟩
theorem pe_nnew : PE X (.Dict [] [] pos) tNNew := ⟨fun pins s σ H Q I h =>
  wpAny_Dict_empty ⟨.ref s.heap.objs.size, _, Inv.rawnew (o := newD) (t' := s.toks) I (fun _ _ q => Heap.get?_push_of_some _ q) (Nat.le_refl _) (Heap.get?_push_size _ rfl), rfl, h _ (I.hok.fresh (Nat.le_refl _)) (nosys I (Nat.le_refl _))⟩⟩
end

/-! ### a walk over the keys -/
/-- the keys, as values -/
def KeysAre (o : Obj) (ks : List V) : Prop := ∃ es ep, o.ExactDict ∧ o.data = .dict es ep ∧ Vals ks (es.toList.map (·.key))
def Itn (d : Addr) (o : Obj) (ks : List V) : It := ⟨fun i H => H d = some (raw d o) ∧ i < ks.length, fun i H x H' => H' = H ∧ ks[i]? = some x, fun i H => H d = some (raw d o) ∧ ks.length ≤ i⟩
theorem walk_n {d : Addr} {o : Obj} {ks : List V} : Walk (Itn d o ks) ks.length (fun H => H d = some (raw d o)) (YAt ks) :=
  ⟨fun _ _ hi q => ⟨q, hi⟩, fun _ q => ⟨q, Nat.le_refl _⟩, fun _ _ _ _ _ _ y => y⟩
theorem turn_n {P : Program} {w : World} {K : PySem.W.Frag} {tg : Expr} {d : Addr} {o : Obj} {ks : List V} {es : Array DictEntry} {ep : Nat} (it : Addr) (hx : o.ExactDict) (hd : o.data = .dict es ep) (hv : Vals ks (es.toList.map (·.key))) :
    Turn P w K tg (Itn d o ks) [it] it (fun i h => h.IsKeyIter it d i es.size ep) where
  mem := by simp
  obj := fun i h st b hb => by
    have e : b = it := by simpa using hb
    subst e
    obtain ⟨ob, e, _, dd⟩ := st
    exact ⟨ob, e, fun v z => by rw [dd] at z; cases z⟩
  keep := fun i h h' st k => st.at fun ob e => k it (by simp) ob e
  item := by
    intro X hP hw hK hc i pins s σ H E I hf st hg
    subst hP hw hK
    obtain ⟨hH, hi⟩ := hg
    have hg := raw_get I.hok hH
    obtain ⟨f0, f1, f2, f3, f4, f5⟩ := hf it (by simp)
    have hsz : ks.length = es.size := by
      rw [hv.length, List.length_map, Array.length_toList]
    have hie : i < es.size := by omega
    obtain ⟨u, hu, ru⟩ := hv.get (List.getElem?_eq_getElem hi)
    have eu : u = es[i].key := by
      rw [List.getElem?_map, Array.getElem?_toList, Array.getElem?_eq_getElem hie] at hu
      exact (Option.some.inj hu).symm
    refine wpAny_pyNext_keys_item_raw st ⟨o, hg, hx, hd⟩ hie fun h' st' sb => ?_
    have I1 : Inv X pins σ H { s with heap := h' } := I.turned (t' := s.toks) (fun b ob hb e => (sb.2 b hb).trans e) f0 f1 f3 f4 f5
    obtain ⟨oi, ei, ci, di⟩ := id st'
    exact ⟨es[i].key, rfl, go_of (s := { s with heap := h' }) ei ci di (by decide) ⟨ks[i], H, I1, by rw [← eu]; exact ru, ⟨rfl, List.getElem?_eq_getElem hi⟩, st', fun b hb => (hf b hb).1⟩⟩
  done := by
    intro X hP hw hK hc i pins s σ H E I hf st hg
    subst hP hw hK
    obtain ⟨hH, hi⟩ := hg
    have hg := raw_get I.hok hH
    obtain ⟨f0, f1, f2, f3, f4, f5⟩ := hf it (by simp)
    have hsz : ks.length = es.size := by
      rw [hv.length, List.length_map, Array.length_toList]
    exact wpAny_pyNext_keys_end_raw (I.ok.hd hc) st ⟨o, hg, hx, hd⟩ (by omega) fun h' eb => ⟨rfl, I.turned (t' := s.toks) (fun b ob hb e => eb b ob hb e) f0 f1 f3 f4 f5⟩
  self := fun A i s Q E st h => wpAny_pyIter_keyiter st h
def iNKeys (td : TE) : TI := fun σ H R => td σ H fun x H1 => ∃ d o ks, x = .ref d ∧ H1 d = some (raw d o) ∧ KeysAre o ks ∧ (d == sysModules) = false ∧ R (Itn d o ks) H1
theorem pi_nkeys {X : Cx} {tg l : Expr} {tl : TE} (hl : PE X l tl) : PI X tg l (iNKeys tl) := by
  refine ⟨fun pins s σ H R I h => ?_⟩
  refine thn (hl.run pins s σ H _ I h) fun v s1 ⟨x, H1, I1, r1, q1⟩ => ?_
  obtain ⟨d, o, ks, e, hH, ⟨es, ep, hx, hd, hv⟩, hs, q⟩ := q1
  subst e
  cases r1
  refine wpAny_pyIter_dict_raw hs ⟨o, raw_get I1.hok hH, hx, hd⟩ ?_
  exact pi_one (tk := s1.toks) I1 _ (turn_n _ hx hd hv) ⟨_, Heap.get?_push_size _ rfl, rfl, rfl⟩ q
theorem keys_LD {P : Program} {w : World} {o : Obj} {kvs : List (Option Str × V)} (h : IsLD P w o kvs) : KeysAre o (kvs.map fun p => sg p.1) := by
  obtain ⟨z, es, ep, vs, h1, h2, h3, h4, h5, r⟩ := h
  refine ⟨es, ep, h1, h2, ?_⟩
  have go : ∀ {l : List DictEntry} {vs : List (Leaf × Value)} {kvs : List (Option Str × V)}, Pairs (leafKind P w) l vs → KV (lfs kvs) vs → Vals (kvs.map fun p => sg p.1) (l.map (·.key)) := by
    intro l
    induction l with
    | nil =>
      intro vs kvs p r
      cases p
      cases kvs with
      | nil => exact .nil
      | cons a t => cases r
    | cons e l ih =>
      intro vs kvs p r
      cases p with
      | cons p1 p0 p2 =>
        cases kvs with
        | nil => cases r
        | cons a t =>
          cases r with
          | cons r1 r2 =>
            refine .cons ?_ (ih p2 r2)
            refine is_sg (P := P) (w := w) ?_
            have q := r1.1
            rw [show lf a.1 = _ from q]
            exact p1
  exact go h4 r
end Lt

/-! Lt, part C: further operations: list.count, text * number, comparisons of data, walks. -/
namespace Lt
open PySem PySem.Spec PyProof.Rows L2

section
variable {X : Cx}
/-- list.count of a flat value -/
def rCntV (K : PySem.W.Frag) : V → List V → Hp → VK → Prop := fun x xs H Q => ∃ (p : Addr) (ys : List V) (y : V), x = .ref p ∧ xs = [y] ∧ SqL K H p ys ∧ flatV y = true ∧ ys.all flatV = true ∧ Q (.int ((ys.countP fun z => eqV z y : Nat) : Int)) H
theorem count_eqU {x : V} : ∀ {xs : List V} {us : List Value}, Vals xs us → xs.all flatV = true → us.countP (eqU x) = xs.countP fun y => eqV y x
  | _, _, .nil, _ => rfl
  | y :: xs, u :: us, .cons r t, f => by
    rw [List.all_cons, Bool.and_eq_true] at f
    rw [List.countP_cons, List.countP_cons, eqU_of r f.1, count_eqU t f.2]
theorem mt_countV : MtR X "list.count" (rCntV X.K) := by
  intro pins s σ H x xs v us Q I rx rxs h
  obtain ⟨p, ys, y, rfl, rfl, hs, fy, fs, q⟩ := h
  cases rx
  obtain ⟨u, rfl, ru⟩ := rxs.one
  obtain ⟨its, rv, ⟨⟨cls, dd, data, sl⟩, n, ho, hc, hdn, hd⟩, hlen⟩ := I.list hs
  simp only at hc hd
  subst hc hd
  refine call_meets PySem.F.slot_list_count ⟨_, ho, rfl⟩ PySem.F.entry_list_count (PySem.F.args_list_count_2 _ _)
    (SeqAt.list_countAt p its.toArray n dd sl u (eqU y)) ⟨ho, fun z hz => mem_eqAt ru fy rv fs z (by simpa using hz), ?_⟩
  refine ⟨.int _, H, I.tok _, ⟨s.toks, ?_⟩, q⟩
  show Value.int ((its.toArray.toList.countP (eqU y) : Nat) : Int) s.toks = _
  rw [show its.toArray.toList = its from rfl, count_eqU rv fs]

/-- text * number -/
def repS (z : Str) (n : Int) : Str := ⟨((List.replicate n.toNat z.cps.toList).flatten).toArray⟩
theorem repS_len (z : Str) (n : Int) : (repS z n).length = n.toNat * z.length := by
  show ((List.replicate n.toNat z.cps.toList).flatten).toArray.size = _
  simp
  rfl
theorem rep_fold (z : Str) (n : Nat) : (List.replicate n z.cps).foldl (· ++ ·) #[] = ((List.replicate n z.cps.toList).flatten).toArray := by
  have go : ∀ (n : Nat) (acc : Array Nat), (List.replicate n z.cps).foldl (· ++ ·) acc = acc ++ ((List.replicate n z.cps.toList).flatten).toArray := by
    intro n
    induction n with
    | zero => intro acc; simp
    | succ n ih =>
      intro acc
      rw [List.replicate_succ, List.foldl_cons, ih, List.replicate_succ, List.flatten_cons]
      apply Array.ext'
      simp
  rw [go]
  simp
def rMulS : R2 := fun x y H Q => ∃ z n, x = .str z ∧ y = .int n ∧ 0 ≤ n ∧ n ≤ 1000 ∧ z.length ≤ 1000 ∧ Q (.str (repS z n)) H
theorem op_mulS : OpR X (binaryOp .Mult) rMulS := by
  intro pins s σ H x y v u Q I rx ry h
  obtain ⟨z, n, rfl, rfl, h0, h1, hz, q⟩ := h
  obtain ⟨t, rfl⟩ := rx
  obtain ⟨t', rfl⟩ := ry
  have hb : z.length * n.toNat ≤ 1000 * 1000 := Nat.mul_le_mul hz (by omega)
  refine PySem.P.mul_str ?_ (fun hn _ => ?_) (fun hn _ => ?_) ?_
  · have a1 : ¬ n < -(2 ^ 63 : Int) := by omega
    have a2 : ¬ n ≥ (2 ^ 63 : Int) := by omega
    rw [decide_eq_false a1, decide_eq_false a2]
    rfl
  · have h3 : (0 : Int) < n := by omega
    have h2 : (1000 : Int) ≤ (2 ^ 63 - 1) / n := by
      rw [Int.le_ediv_iff_mul_le h3]
      omega
    omega
  · have e : z.length * n.toNat ≤ sizeLine := Nat.le_trans hb (by rw [sizeLine_eq]; decide)
    unfold Builtin.Str.tooLong
    exact decide_eq_false (by omega)
  · by_cases hn : n < 1
    · rw [if_pos hn]
      have e : n = 0 := by omega
      subst e
      exact ⟨by decide, ⟨.str _, H, I.tok _, ⟨_, rfl⟩, q⟩⟩
    · rw [if_neg hn]
      by_cases hc : (n == 1 || z.length == 0) = true
      · rw [if_pos hc]
        have e : repS z n = z := by
          rw [Bool.or_eq_true, beq_iff_eq, beq_iff_eq] at hc
          unfold repS
          rcases hc with e | e
          · subst e
            show (⟨((List.replicate 1 z.cps.toList).flatten).toArray⟩ : Str) = z
            simp
          · have e2 : z.cps.toList = [] := by
              have : z.cps.size = 0 := e
              simpa using this
            rw [e2]
            have e3 : z.cps = #[] := by
              have := congrArg List.toArray e2
              simpa using this
            cases z
            simp at e3
            subst e3
            simp
        rw [e] at q
        exact ⟨.str _, H, I, ⟨_, rfl⟩, q⟩
      · rw [if_neg hc]
        refine ⟨?_, ⟨.str _, H, I.tok _, ⟨s.toks, ?_⟩, q⟩⟩
        · rw [rep_fold]
          show (repS z n).length ≤ sizeLine
          rw [repS_len, Nat.mul_comm, sizeLine_eq]
          omega
        · rw [rep_fold]
          all_goals rfl
end

/-! ### data compared -/
mutual
def py : D → PyData
  | .none => .none
  | .num i => .int i
  | .text x => .str x
  | .tup ks => .tuple (pys ks)
def pys : List D → List PyData
  | [] => []
  | k :: ks => py k :: pys ks
end
mutual
theorem eqv_py : ∀ a b : D, PyData.eqv (py a) (py b) = NestedKey.beq a b
  | .none, .none => rfl
  | .none, .num _ => rfl
  | .none, .text _ => rfl
  | .none, .tup _ => rfl
  | .num _, .none => rfl
  | .num a, .num b => by simp [py, PyData.eqv, NestedKey.beq, Bool.beq_eq_decide_eq]
  | .num _, .text _ => rfl
  | .num _, .tup _ => rfl
  | .text _, .none => rfl
  | .text _, .num _ => rfl
  | .text a, .text b => by simp [py, PyData.eqv, NestedKey.beq, Bool.beq_eq_decide_eq]
  | .text _, .tup _ => rfl
  | .tup _, .none => rfl
  | .tup _, .num _ => rfl
  | .tup _, .text _ => rfl
  | .tup a, .tup b => by simp only [py, PyData.eqv, NestedKey.beq]; exact eqv_pys a b
theorem eqv_pys : ∀ a b : List D, PyData.eqvAll (pys a) (pys b) = NestedKey.beqAll a b
  | [], [] => rfl
  | [], _ :: _ => rfl
  | _ :: _, [] => rfl
  | a :: as, b :: bs => by simp only [pys, PyData.eqvAll, NestedKey.beqAll]; rw [eqv_py a b, eqv_pys as bs]
end
theorem beqAll_decide (a b : List D) : NestedKey.beqAll a b = decide (a = b) := by
  cases h : NestedKey.beqAll a b with
  | true => exact (decide_eq_true (NestedKey.eq_of_beqAll a b h)).symm
  | false => exact (decide_eq_false fun e => by rw [e, NestedKey.beqAll_self] at h; cases h).symm
theorem eqv_list (a b : List D) : PyData.eqv (.list (pys a)) (.list (pys b)) = decide (a = b) := by
  rw [← beqAll_decide, ← eqv_pys, PyData.eqv]
theorem eqv_dec (a b : D) : PyData.eqv (py a) (py b) = decide (a = b) := by rw [eqv_py, NestedKey.decide_eq]
mutual
theorem At.dp {K : PySem.W.Frag} {H : Hp} : ∀ (d : D) (v : V), At H d v → Dp K H v (py d)
  | .none, _, h => by rw [h.of_non]; exact .non
  | .num i, _, h => by rw [h.of_int]; exact .int i
  | .text x, _, h => by rw [h.of_str]; exact .str x
  | .tup ks, _, h => by
    obtain ⟨b, xs, e, hb, hs⟩ := h.of_tup
    rw [e]
    exact .tup (SqT.of hb) (Ats.dp ks xs hs)
theorem Ats.dp {K : PySem.W.Frag} {H : Hp} : ∀ (ds : List D) (vs : List V), Ats H ds vs → DpAll K H vs (pys ds)
  | [], _, h => by rw [h.of_nil]; exact .nil
  | d :: ds, _, h => by
    obtain ⟨v, r, e, h1, h2⟩ := h.of_cons
    rw [e]
    exact .cons (At.dp d v h1) (Ats.dp ds r h2)
end
/-- it can be laid: texts of true signs -/
def okD (d : D) : Bool := (py d).canLay0
def okDs (ds : List D) : Bool := PyData.canLayAll0 (pys ds)
theorem okDs_cons {d : D} {ds : List D} : okDs (d :: ds) = (okD d && okDs ds) := rfl
theorem okDs_of : ∀ {ds : List D}, (∀ d ∈ ds, okD d = true) → okDs ds = true
  | [], _ => rfl
  | d :: ds, h => by
    rw [okDs_cons, h d (List.mem_cons_self), okDs_of fun x hx => h x (List.mem_cons_of_mem _ hx)]
    rfl
theorem okDs_mem : ∀ {ds : List D}, okDs ds = true → ∀ d ∈ ds, okD d = true
  | [], _, d, hd => by cases hd
  | e :: ds, h, d, hd => by
    rw [okDs_cons, Bool.and_eq_true] at h
    rcases List.mem_cons.mp hd with q | q
    · rw [q]; exact h.1
    · exact okDs_mem h.2 d q
theorem okD_tup {ks : List D} : okD (.tup ks) = okDs ks := rfl
theorem okD_num {i : Int} : okD (.num i) = true := rfl
theorem okDs_ints : ∀ ns : List Int, okDs (ns.map .num) = true := fun ns => okDs_of fun d hd => by
  obtain ⟨n, _, rfl⟩ := List.mem_map.mp hd
  rfl
/-- how deep -/
def dpD (d : D) : Nat := (py d).depth
def dpDs (ds : List D) : Nat := PyData.depthAll (pys ds)
theorem dpDs_le {n : Nat} : ∀ {ds : List D}, (∀ d ∈ ds, dpD d ≤ n) → dpDs ds ≤ n
  | [], _ => Nat.zero_le _
  | d :: ds, h => by
    show max (dpD d) (dpDs ds) ≤ n
    exact Nat.max_le.mpr ⟨h d (List.mem_cons_self), dpDs_le fun x hx => h x (List.mem_cons_of_mem _ hx)⟩
theorem dpD_tup {ks : List D} : dpD (.tup ks) = dpDs ks + 1 := by
  show (PyData.tuple (pys ks)).depth = _
  rw [PyData.depth]
  rfl
theorem dpD_leaf : dpD .none = 0 ∧ (∀ i, dpD (.num i) = 0) ∧ ∀ x, dpD (.text x) = 0 := by
  refine ⟨?_, fun i => ?_, fun x => ?_⟩ <;> (show PyData.depth _ = 0; simp only [py, PyData.depth])
theorem dpDs_ints (ns : List Int) : dpDs (ns.map .num) = 0 := Nat.le_zero.mp (dpDs_le fun d hd => by
  obtain ⟨n, _, rfl⟩ := List.mem_map.mp hd
  exact Nat.le_of_eq (dpD_leaf.2.1 n))
section
variable {X : Cx}
def rEqT : R2 := fun x y H Q => ∃ d e, At H d x ∧ At H e y ∧ okD d = true ∧ okD e = true ∧ dpD d ≤ 64 ∧ dpD e ≤ 64 ∧ Q (.bl (decide (d = e))) H
def rNeT : R2 := fun x y H Q => ∃ d e, At H d x ∧ At H e y ∧ okD d = true ∧ okD e = true ∧ dpD d ≤ 64 ∧ dpD e ≤ 64 ∧ Q (.bl (!decide (d = e))) H
theorem op_eqT (hu : X.A.units + 64 < cLine) : OpR X (compareOp .Eq) rEqT := by
  intro pins s σ H x y v u Q I rx ry h
  obtain ⟨d, e, hd, he, kd, ke, ld, le, q⟩ := h
  refine op_eqD hu pins s σ H x y v u Q I rx ry ⟨py d, py e, At.dp d x hd, At.dp e y he, ?_, ?_, ?_⟩
  · exact (Bool.and_eq_true _ _).mpr ⟨kd, decide_eq_true ld⟩
  · exact (Bool.and_eq_true _ _).mpr ⟨ke, decide_eq_true le⟩
  · rw [eqv_dec]
    exact q
theorem op_neT (hu : X.A.units + 64 < cLine) : OpR X (compareOp .NotEq) rNeT := by
  intro pins s σ H x y v u Q I rx ry h
  obtain ⟨d, e, hd, he, kd, ke, ld, le, q⟩ := h
  refine op_neD hu pins s σ H x y v u Q I rx ry ⟨py d, py e, At.dp d x hd, At.dp e y he, ?_, ?_, ?_⟩
  · exact (Bool.and_eq_true _ _).mpr ⟨kd, decide_eq_true ld⟩
  · exact (Bool.and_eq_true _ _).mpr ⟨ke, decide_eq_true le⟩
  · rw [eqv_dec]
    exact q
/-- lists of data -/
def rEqL (K : PySem.W.Frag) : R2 := fun x y H Q => ∃ p q xs ys ds es, x = .ref p ∧ y = .ref q ∧ SqL K H p xs ∧ SqL K H q ys ∧ Ats H ds xs ∧ Ats H es ys ∧ okDs ds = true ∧ okDs es = true ∧ dpDs ds ≤ 60 ∧ dpDs es ≤ 60 ∧ Q (.bl (decide (ds = es))) H
def rNeL (K : PySem.W.Frag) : R2 := fun x y H Q => ∃ p q xs ys ds es, x = .ref p ∧ y = .ref q ∧ SqL K H p xs ∧ SqL K H q ys ∧ Ats H ds xs ∧ Ats H es ys ∧ okDs ds = true ∧ okDs es = true ∧ dpDs ds ≤ 60 ∧ dpDs es ≤ 60 ∧ Q (.bl (!decide (ds = es))) H
theorem shaped_list {ds : List D} (k : okDs ds = true) (l : dpDs ds ≤ 60) : SeqAt.shaped (.list (pys ds)) = true := by
  refine (Bool.and_eq_true _ _).mpr ⟨?_, decide_eq_true ?_⟩
  · rw [PyData.canLay0]
    exact k
  · rw [PyData.depth]
    have : PyData.depthAll (pys ds) ≤ 60 := l
    omega
theorem op_eqL (hu : X.A.units + 64 < cLine) : OpR X (compareOp .Eq) (rEqL X.K) := by
  intro pins s σ H x y v u Q I rx ry h
  obtain ⟨p, q', xs, ys, ds, es, rfl, rfl, hp, hq, hd, he, kd, ke, ld, le, q⟩ := h
  refine op_eqD hu pins s σ H _ _ v u Q I rx ry ⟨.list (pys ds), .list (pys es), .lst hp (Ats.dp ds xs hd), .lst hq (Ats.dp es ys he), shaped_list kd ld, shaped_list ke le, ?_⟩
  rw [eqv_list]
  exact q
theorem op_neL (hu : X.A.units + 64 < cLine) : OpR X (compareOp .NotEq) (rNeL X.K) := by
  intro pins s σ H x y v u Q I rx ry h
  obtain ⟨p, q', xs, ys, ds, es, rfl, rfl, hp, hq, hd, he, kd, ke, ld, le, q⟩ := h
  refine op_neD hu pins s σ H _ _ v u Q I rx ry ⟨.list (pys ds), .list (pys es), .lst hp (Ats.dp ds xs hd), .lst hq (Ats.dp es ys he), shaped_list kd ld, shaped_list ke le, ?_⟩
  rw [eqv_list]
  exact q
end
/-- signs as data -/
def sd : Option Str → D
  | none => .none
  | some x => .text x
theorem sd_at {H : Hp} (o : Option Str) : At H (sd o) (sg o) := by
  cases o
  · exact At.non
  · exact At.str
theorem sd_inj {a b : Option Str} (h : sd a = sd b) : a = b := by
  cases a <;> cases b <;> first | rfl | (injection h with h; rw [h]) | cases h
theorem sds_at {H : Hp} : ∀ ss : List (Option Str), Ats H (ss.map sd) (ss.map sg)
  | [] => Ats.nil
  | s :: ss => Ats.cons (sd_at s) (sds_at ss)
theorem sds_inj : ∀ {a b : List (Option Str)}, a.map sd = b.map sd → a = b
  | [], [], _ => rfl
  | [], _ :: _, h => by simp at h
  | _ :: _, [], h => by simp at h
  | x :: a, y :: b, h => by
    rw [List.map_cons, List.map_cons] at h
    injection h with h1 h2
    rw [sd_inj h1, sds_inj h2]
theorem sds_dec (a b : List (Option Str)) : decide (a.map sd = b.map sd) = decide (a = b) := decide_eq_decide.mpr ⟨sds_inj, fun e => by rw [e]⟩
theorem dp_sd : ∀ o : Option Str, dpD (sd o) = 0
  | none => dpD_leaf.1
  | some x => dpD_leaf.2.2 x
theorem sds_dp (ss : List (Option Str)) : dpDs (ss.map sd) ≤ 60 := dpDs_le fun d hd => by
  obtain ⟨o, _, rfl⟩ := List.mem_map.mp hd
  rw [dp_sd]
  decide
/-- a sign that one may be told: small letters -/
def IsSign (s : Str) : Prop := 1 ≤ s.length ∧ s.length ≤ 8 ∧ ∀ c ∈ s.cps.toList, 97 ≤ c ∧ c ≤ 122
def IsSg : Option Str → Prop
  | none => True
  | some s => IsSign s
theorem IsSign.ok {s : Str} (h : IsSign s) : okD (.text s) = true := by
  show (PyData.str s).canLay0 = true
  rw [PyData.canLay0]
  show s.cps.all (· < 0x110000) = true
  rw [← Array.all_toList, List.all_eq_true]
  intro c hc
  have := h.2.2 c hc
  exact decide_eq_true (by omega)
theorem IsSg.ok {o : Option Str} (h : IsSg o) : okD (sd o) = true := by
  cases o
  · rfl
  · exact IsSign.ok h
theorem IsSg.oks {ss : List (Option Str)} (h : ∀ s ∈ ss, IsSg s) : okDs (ss.map sd) = true := okDs_of fun d hd => by
  obtain ⟨o, ho, rfl⟩ := List.mem_map.mp hd
  exact (h o ho).ok
theorem sg_flat (o : Option Str) : flatV (sg o) = true := by cases o <;> rfl
theorem sgs_flat (ss : List (Option Str)) : (ss.map sg).all flatV = true := by
  rw [List.all_map, List.all_eq_true]
  intro o _
  exact sg_flat o
theorem eqV_sg (a b : Option Str) : eqV (sg a) (sg b) = (a == b) := by
  cases a <;> cases b <;> first | rfl | (simp [sg, eqV])
theorem countP_sg (o : Option Str) : ∀ ss : List (Option Str), (ss.map sg).countP (fun z => eqV z (sg o)) = ss.count o
  | [] => rfl
  | s :: ss => by rw [List.map_cons, List.countP_cons, List.count_cons, countP_sg o ss, eqV_sg]
theorem scal_sg (a b : Option Str) : scal (sg a) (sg b) = true := by cases a <;> cases b <;> rfl
theorem dec_sg (a b : Option Str) : decide (sg a = sg b) = decide (a = b) := decide_eq_decide.mpr ⟨sg_inj, fun e => by rw [e]⟩
theorem walk_listN {K : PySem.W.Frag} {a : Addr} {xs : List V} {n : Nat} (h : xs.length = n) : Walk (Itl K a) n (fun H => SqL K H a xs) (YAt xs) := by
  subst h
  exact walk_list
theorem walk_tupN {K : PySem.W.Frag} {a : Addr} {xs : List V} {n : Nat} (h : xs.length = n) : Walk (Itt K a) n (fun H => SqT K H a xs) (YAt xs) := by
  subst h
  exact walk_tup
theorem valV_mem {κ : Type} [DecidableEq κ] {kvs : List (κ × V)} {k : κ} {v : V} (h : valV kvs k = some v) : (k, v) ∈ kvs := by
  unfold valV at h
  obtain ⟨p, hp, e⟩ := Option.map_eq_some_iff.mp h
  have h1 := List.find?_some hp
  have h2 := List.mem_of_find?_eq_some hp
  simp only [decide_eq_true_eq] at h1
  rw [← h1, ← e]
  exact h2

/-! ### the rules with the written part told -/
section
variable {X : Cx} {K : PySem.W.Frag}
theorem ix_listK (e : X.K = K) : IxR X (rIxL K) := e ▸ ix_list
theorem ix_tupK (e : X.K = K) : IxR X (rIxT K) := e ▸ ix_tup
theorem in_seqK (e : X.K = K) : OpR X (compareOp .In) (rIn K false) := e ▸ op_in_seq
theorem notIn_seqK (e : X.K = K) : OpR X (compareOp .NotIn) (rIn K true) := e ▸ op_notIn_seq
def rLenQ (K : PySem.W.Frag) : List V → Hp → VK → Prop := fun xs H Q => ∃ p ys, xs = [.ref p] ∧ (SqL K H p ys ∨ SqT K H p ys) ∧ Q (.int ys.length) H
theorem len_seqK (e : X.K = K) : CallR X (.builtin "len") (rLenQ K) := e ▸ call_len_seq
theorem sl_listK (e : X.K = K) : SlR X (rSlL K) := e ▸ sl_list
theorem sl_tupK (e : X.K = K) : SlR X (rSlT K) := e ▸ sl_tup
theorem countVK (e : X.K = K) : MtR X "list.count" (rCntV K) := e ▸ mt_countV
theorem indexK (e : X.K = K) : MtR X "list.index" (rIndex K) := e ▸ mt_index
theorem isiK (e : X.K = K) : CallR X (.builtin "isinstance") (rIsi K) := e ▸ call_isi
def rListQ (K : PySem.W.Frag) : List V → Hp → VK → Prop := fun xs H Q => ∃ p ys, xs = [.ref p] ∧ (SqL K H p ys ∨ SqT K H p ys) ∧ ∀ l, H l = none → Q (.ref l) (upd H l (.lst ys))
theorem list_ofK (e : X.K = K) : CallR X (.type "list") (rListQ K) := e ▸ call_list_of
theorem eqLK (e : X.K = K) (hu : X.A.units + 64 < cLine) : OpR X (compareOp .Eq) (rEqL K) := e ▸ op_eqL hu
theorem neLK (e : X.K = K) (hu : X.A.units + 64 < cLine) : OpR X (compareOp .NotEq) (rNeL K) := e ▸ op_neL hu
theorem pi_listK {tg l : Expr} {tl : TE} (e : X.K = K) (hl : PE X l tl) : PI X tg l (iList K tl) := e ▸ pi_list hl
theorem pi_tupK {tg l : Expr} {tl : TE} (e : X.K = K) (hl : PE X l tl) : PI X tg l (iTup K tl) := e ▸ pi_tup hl
theorem pg_tupK {es : List Expr} {k : Nat} {t : TGs} {n : Nat} {pos : Pos} (e : X.K = K) (hc : X.calm = true) (h : PGs X es t)
    (hn : (assignEach es X.env).length = n := by rfl) (hst : (assignEach es X.env).findIdx? (·.1) = none := by rfl) : PG X (.Tuple es k pos) (gTup K n t) := e ▸ pg_tup hc h hn hst
theorem pe_fldK {e : Expr} {ta : TE} {f : Str} {pos : Pos} (q : X.K = K) (ha : PE X e ta) (hb : attributeBase e f X.env (eval e X.env) = eval e X.env) : PE X (.Attribute e f pos) (tFld K ta f) := q ▸ pe_fld ha hb
section
variable {T : String} {r : V → List V → Hp → VK → Prop} {to : TE} {t : TA}
theorem bmK {e : Expr} (q : X.K = K) (h : PE X e (tBM X.K T r to t)) : PE X e (tBM K T r to t) := q ▸ h
theorem bm0K {e : Expr} (q : X.K = K) (h : PE X e (tBM0 X.K T r to)) : PE X e (tBM0 K T r to) := q ▸ h
end
section
variable {P : Program} {w : World} {o i e f value : Expr} {pos pos' tpos apos cpos : Pos} {td ty tv tx : TE}
theorem pe_ngetK (q : X.prog = P) (z : X.w = w) (hu : X.A.units + 64 < cLine) (ho : PE X o td) (hi : PE X i ty) (hs : NoSl i) : PE X (.Subscript o i pos) (tNGet P w td ty) := by
  subst q z
  exact pe_nget hu ho hi hs
theorem ps_nputK (q : X.prog = P) (z : X.w = w) (hu : X.A.units + 64 < cLine) (ho : PE X o td) (hi : PE X i ty) (hv : PE X value tv) (hs : swapsWith value (some (.Subscript o i pos')) pos.line X.env = pure false) :
    PS X (.Assign [.Subscript o i pos'] value pos) (sNPut P w td ty tv) := by
  subst q z
  exact ps_nput hu ho hi hv hs
theorem pe_nget2K (q : X.prog = P) (z : X.w = w) (hu : X.A.units + 64 < cLine) (ho : PE X o td) (he : PE X e ty) (hf : PE X f tx) (m : M2 X o "get" apos e f cpos) : PE X (.Call (.Attribute o "get" apos) [e, f] [] cpos) (tNGet2 P w td ty tx) := by
  subst q z
  exact pe_nget2 hu ho he hf m
end
end

/-! ### a comprehension of data -/
theorem range_filterMap {α : Type} (F : Nat → Option α) (n : Nat) : (List.range (n + 1)).filterMap F = (List.range n).filterMap F ++ (match F n with | some d => [d] | none => []) := by
  rw [List.range_succ, List.filterMap_append]
  congr 1
  cases h : F n <;> simp [h]
theorem lc_data {J : It} {n : Nat} {G : Hp → Prop} {Y : Nat → Hp → V → Hp → Prop} (wk : Walk J n G Y) {g : TG} {tt : TT} {te : TE} {vs : List Nat} {σ : L2.St} {H1 : Hp} {D' : Addr} {Qd : Hp → Prop} (hD : H1 D' = none) (hn : n ≤ 100000) (F : Nat → Option D)
    (hG : ∀ H', Le H1 H' → G H')
    (hs : ∀ i x H' H'', i < n → Le H1 H' → Y i H' x H'' → ∀ (Yk : V → Hp → Prop) (Nk : Hp → Prop), (∀ y H4 d, Le H' H4 → F i = some d → At H4 d y → Yk y H4) → (∀ H3, Le H' H3 → F i = none → Nk H3) →
      g x (wipe σ vs) H'' fun σ2 H2 => wipe σ2 vs = wipe σ vs ∧ tt σ2 H2 fun b H3 => if b = true then te σ2 H3 Yk else Nk H3)
    (hd : ∀ H' xs, Le H1 H' → H' D' = some (.lst xs) → Ats H' ((List.range n).filterMap F) xs → Qd H') :
    ∃ W : Nat → Nat → Hp → Prop, (∃ m, W 0 m (L2.upd H1 D' (.lst []))) ∧ ∀ i m H, W i m H →
      (J.stop i H ∧ Qd H) ∨ (J.go i H ∧ ∃ Nx : Hp → Prop, (∀ H', Nx H' → ∃ m', m' < m ∧ W (i + 1) m' H') ∧ ∀ x H', J.yld i H x H' → g x (wipe σ vs) H' fun σ2 H2 => wipe σ2 vs = wipe σ vs ∧ tt σ2 H2 fun b H3 =>
        if b = true then te σ2 H3 fun y H4 => ∃ acc, H4 D' = some (.lst acc) ∧ acc.length < sizeLine ∧ Nx (L2.upd H4 D' (.lst (acc ++ [y]))) else Nx H3) := by
  refine lc_it wk (fun i H' => Le H1 H' ∧ ∃ xs, H' D' = some (.lst xs) ∧ Ats H' ((List.range i).filterMap F) xs) ⟨.new hD, [], upd_same, Ats.nil⟩ (fun i H' _ h => hG H' h.1) (fun i x H' H'' hi h hy => ?_) (fun H' h => ?_)
  · obtain ⟨l, xs, hx, ha⟩ := h
    refine hs i x H' H'' hi l hy _ _ (fun y H4 d l4 hF hd' => ?_) (fun H3 l3 hF => ?_)
    · have hl : xs.length ≤ i := by
        rw [ha.length]
        exact Nat.le_trans (List.length_filterMap_le _ _) (by rw [List.length_range]; exact Nat.le_refl _)
      refine ⟨xs, l4.lst hx, Nat.lt_of_le_of_lt (Nat.le_trans hl (by omega : i ≤ 100000)) (by rw [sizeLine_eq]; decide), (l.trans l4).mut hD, _, upd_same, ?_⟩
      rw [range_filterMap, hF]
      exact Ats.app ((ha.le l4).tp (tups_upd (l4.lst hx) (fun _ z => nomatch z))) (Ats.cons (hd'.tp (tups_upd (l4.lst hx) (fun _ z => nomatch z))) Ats.nil)
    · refine ⟨l.trans l3, xs, l3.lst hx, ?_⟩
      rw [range_filterMap, hF]
      simpa using ha.le l3
  · obtain ⟨l, xs, hx, ha⟩ := h
    exact hd H' xs l hx ha
theorem scal_int {i j : Int} : scal (.int i) (.int j) = true := rfl
theorem scal_str {i j : Str} : scal (.str i) (.str j) = true := rfl
theorem scal_bl {i j : Bool} : scal (.bl i) (.bl j) = true := rfl

/-! ### where ways meet: what follows is shown once -/
def tJoin (t u : TS) : TS := fun D σ H => ∃ Mid : L2.St → Hp → Prop, t { D with nx := Mid } σ H ∧ ∀ σ' H', Mid σ' H' → u D σ' H'
theorem pss_join {X : Cx} {st : Stmt} {rest : List Stmt} {t u : TS} (h1 : PS X st t) (h2 : PSs X rest u) : PSs X (st :: rest) (tJoin t u) := by
  refine ⟨fun pins s σ H D I h => ?_⟩
  obtain ⟨Mid, ht, hu⟩ := h
  refine wpAny_execs_cons (thn (h1.run pins s σ H { D with nx := Mid } I ht) fun fl s1 q => ?_)
  cases fl with
  | ret v => exact q
  | brk => exact q
  | cont => exact q
  | next =>
    obtain ⟨σ1, H1, I1, m⟩ := q
    exact h2.run pins s1 σ1 H1 D I1 (hu σ1 H1 m)
def iv : V → Int
  | .int n => n
  | _ => 0
theorem ats_sd {H : Hp} : ∀ {Z : List (Option Str)} {ys : List V}, Ats H (Z.map sd) ys → ys = Z.map sg
  | [], _, h => h.of_nil
  | z :: Z, _, h => by
    obtain ⟨v, r, e, h1, h2⟩ := Ats.of_cons h
    rw [e, ats_sd h2, List.map_cons]
    congr 1
    cases z with
    | none => exact h1.of_non
    | some x => exact h1.of_str

theorem ixN_of {n : Nat} {z : Int} (h0 : 0 ≤ z) (h1 : z < n) : ixN n z = some z.toNat := by
  unfold ixN
  rw [if_pos h0, if_pos h1]

/-! ### calls of own defs that let nothing out -/
structure Cal (P : Program) (w : World) (K : PySem.W.Frag) (mg : Str → Option Value) (base : Heap) (CX : CXT) (k : Nat) (x : Str) (ps : List Str) (sp : Sp) (f : Addr) (fd : FuncData) : Prop where
  ok : FnOk P w K mg base CX k f fd ps sp
  gl : mg x = some (.ref f)
  kp : PySem.W.keepIn K (.ref f) = true
  bd : Binds K fd ps []
section
variable {X : Cx} {k : Nat} {x : Str} {ps : List Str} {sp : Sp} {f : Addr} {fd : FuncData} {p pos : Pos} {e : Expr} {es : List Expr} {t : TA}
theorem pe_own (c : Cal X.prog X.w X.K X.mg X.base CX0 k x ps sp f fd) (hr : Room k X.A) (hg : Gl X x) (ha : PA X (e :: es) t) (hdb : (x == ("__debug__" : Str)) = false := by decide)
    (he : starEach (e :: es) X.env = (false, eval e X.env) :: starEach es X.env := by rfl) (hpl : (backTo pos (starEach es X.env)).any (·.1) = false := by rfl) :
    PE X (.Call (.Name x p) (e :: es) [] pos) (tCall sp [] E0 t) := pe_call c.ok hr hg c.gl c.kp c.bd .nil pass0 ha hdb he hpl
end

/-! ### the builtins' names -/
theorem bb_range : bootBuiltins "range" = some (.type "range") := by decide +kernel
theorem bb_str : bootBuiltins "str" = some (.type "str") := by decide +kernel
theorem bb_int : bootBuiltins "int" = some (.type "int") := by decide +kernel
theorem bb_bool : bootBuiltins "bool" = some (.type "bool") := by decide +kernel
theorem bb_list : bootBuiltins "list" = some (.type "list") := by decide +kernel
theorem bb_tuple : bootBuiltins "tuple" = some (.type "tuple") := by decide +kernel
theorem bb_dict : bootBuiltins "dict" = some (.type "dict") := by decide +kernel
theorem bb_set : bootBuiltins "set" = some (.type "set") := by decide +kernel
theorem bb_enumerate : bootBuiltins "enumerate" = some (.type "enumerate") := by decide +kernel
theorem bb_len : bootBuiltins "len" = some (.builtin "len") := by decide +kernel
theorem bb_isinstance : bootBuiltins "isinstance" = some (.builtin "isinstance") := by decide +kernel
theorem bb_min : bootBuiltins "min" = some (.builtin "min") := by decide +kernel
theorem bb_max : bootBuiltins "max" = some (.builtin "max") := by decide +kernel
theorem bb_sum : bootBuiltins "sum" = some (.builtin "sum") := by decide +kernel
theorem bb_all : bootBuiltins "all" = some (.builtin "all") := by decide +kernel
structure Bt (mg : Str → Option Value) : Prop where
  b_range : mg "range" = none
  b_str : mg "str" = none
  b_int : mg "int" = none
  b_bool : mg "bool" = none
  b_list : mg "list" = none
  b_tuple : mg "tuple" = none
  b_dict : mg "dict" = none
  b_set : mg "set" = none
  b_enumerate : mg "enumerate" = none
  b_len : mg "len" = none
  b_isinstance : mg "isinstance" = none
  b_min : mg "min" = none
  b_max : mg "max" = none
  b_sum : mg "sum" = none
  b_all : mg "all" = none
end Lt

/-! Lt, part D: dicts: length, list of the keys, a copy, two the same, cleared. -/
namespace Lt
open PySem PySem.Spec PyProof.Rows L2

section
variable {X : Cx}
/-- how many keys the object has -/
def SizeIs (o : Obj) (n : Nat) : Prop := ∃ es ep, o.ExactDict ∧ o.data = .dict es ep ∧ es.size = n
theorem size_ND {P : Program} {w : World} {H : Hp} {o : Obj} {kvs : List (D × V)} (h : IsND P w H o kvs) : SizeIs o kvs.length := by
  obtain ⟨z, es, ep, xs, h1, h2, h3, h4, r⟩ := h
  exact ⟨es, ep, h1, h2, by rw [size_of_entries h3, r.length]⟩
def rLenN : List V → Hp → VK → Prop := fun xs H Q => ∃ d o n, xs = [.ref d] ∧ H d = some (raw d o) ∧ SizeIs o n ∧ (d == sysModules) = false ∧ n ≤ sizeLine ∧ Q (.int n) H
theorem call_lenN : CallR X (.builtin "len") rLenN := by
  intro pins s σ H xs us Q I r h
  obtain ⟨d, o, n, rfl, hd, ⟨es, ep, h1, h2, h3⟩, hs, hn, q⟩ := h
  obtain ⟨u, rfl, ru⟩ := vals1 r
  cases ru
  have hr : s.heap.DictRaw d es ep := ⟨o, raw_get I.hok hd, h1, h2⟩
  rw [sizeLine_eq] at hn
  refine call_len_slot (n := (n : Int)) hr.typeIs PySem.F.slot_dict_len (fun Q' hq => call_len_raw hs hr ?_) (by omega) (by omega) ⟨.int n, H, I.tok _, ⟨_, rfl⟩, q⟩
  rw [h3]
  exact hq
/-- list(d) -/
def rListN : List V → Hp → VK → Prop := fun xs H Q => ∃ d o ks, xs = [.ref d] ∧ H d = some (raw d o) ∧ KeysAre o ks ∧ (d == sysModules) = false ∧ ks.length ≤ sizeLine ∧ ∀ p, H p = none → Q (.ref p) (L2.upd H p (.lst ks))
theorem call_listN (hc : X.calm = true) : CallR X (.type "list") rListN := by
  intro pins s σ H xs us Q I r h
  obtain ⟨d, o, ks, rfl, hd, ⟨es, ep, h1, h2, hv⟩, hs, hn, q⟩ := h
  obtain ⟨u, rfl, ru⟩ := vals1 r
  cases ru
  have hr : s.heap.DictRaw d es ep := ⟨o, raw_get I.hok hd, h1, h2⟩
  have hsz : ks.length = es.size := by
    rw [hv.length, List.length_map, Array.length_toList]
  refine PySem.W.kdl_call (KdlSrc.rawDict hs) (I.ok.hd hc) hr (by rw [← hsz]; exact hn) fun h' tk acc c' kp e it => ?_
  refine ⟨.ref s.heap.objs.size, _, I.laid (t' := tk) (o := .lst ks) kp (Nat.le_refl _) ⟨hn, acc.toList, c', ?_, by rw [Array.toArray_toList]; exact e⟩, rfl, q _ (I.hok.fresh (Nat.le_refl _))⟩
  have ea : acc.toList = es.toList.map (·.key) := by
    refine List.ext_getElem? fun i => ?_
    rw [List.getElem?_map, Array.getElem?_toList, Array.getElem?_toList]
    by_cases hi : i < es.size
    · have ha : i < acc.size := by rw [it.1]; exact hi
      obtain ⟨_, e2⟩ := it.2 i acc[i] (Array.getElem?_eq_getElem ha)
      rw [Array.getElem?_eq_getElem ha, Array.getElem?_eq_getElem hi, e2]
      rfl
    · have ha : ¬ i < acc.size := by rw [it.1]; exact hi
      rw [Array.getElem?_eq_none (by omega), Array.getElem?_eq_none (by omega)]
      rfl
  rw [ea]
  exact hv
theorem keys_ND {P : Program} {w : World} {H : Hp} {o : Obj} {kvs : List (D × V)} (h : IsND P w H o kvs) : ∃ ks, KeysAre o ks ∧ Ats H (kvs.map (·.1)) ks := by
  obtain ⟨z, es, ep, xs, h1, h2, h3, h4, r⟩ := h
  refine ⟨xs.map fun x => .ref x.2.1, ⟨es, ep, h1, h2, ?_⟩, ?_⟩
  · rw [h3, List.map_map]
    have go : ∀ l : List (D × Addr × Value), Vals (l.map fun x => V.ref x.2.1) (l.map ((fun e : DictEntry => e.key) ∘ entryOfKey (nestedKind P w))) := by
      intro l
      induction l with
      | nil => exact .nil
      | cons a l ih => exact .cons rfl ih
    exact go xs
  · unfold Ent at r
    clear h3 h4 z
    induction r with
    | nil => exact Ats.nil
    | cons h t ih => exact Ats.cons h.2.1.1 ih

/-- two dicts the same -/
theorem same_nd {pins : List (Addr × Obj)} {σ : L2.St} {H : Hp} {s : Shared} {A : Around} {E : Value → Shared → Prop} {nm : String} {a b : Addr} {ka kb : List (D × V)} {Q : Bool → Shared → Prop} (hu : A.units + 60 < cLine) (I : Inv X pins σ H s)
    (ha : ND X.prog X.w H a ka) (hb : ND X.prog X.w H b kb) (hl : ka.length = kb.length) (hp : ∀ p ∈ ka, valV kb p.1 = some p.2 ∧ flatB p.2 = true) (h : Q true s) :
    wpAny (model X.prog X.w) A (Builtin.Dict.samePairs nm a b) Q E s := by
  obtain ⟨za, sa, xa, ra, oa, ea, pa, ga, _, da, la, ia, na⟩ := ha.dict I.hok
  obtain ⟨zb, sb, xb, rb, ob, eb, pb, gb, _, db, lb, ib, nb⟩ := hb.dict I.hok
  have sza : ea.size = xa.length := size_of_entries la
  have szb : eb.size = xb.length := size_of_entries lb
  have hsz : ea.size = eb.size := by rw [sza, szb, ← ra.length, ← rb.length, hl]
  unfold Builtin.Dict.samePairs Builtin.Dict.showsAll
  rw [if_neg (by rw [sa]; exact Bool.false_ne_true), if_neg (by rw [sb]; exact Bool.false_ne_true)]
  refine wpAny_bind (wpAny_pure (wpAny_bind (wpAny_pure (wpAny_bind (wpAny_dictEntries ga da ?_)))))
  dsimp only
  refine wpAny_bind (wpAny_dictEntries gb db ?_)
  rw [if_neg (by rw [hsz]; simp)]
  refine wpAny_bind (wpAny_dictEpoch ga da (wpAny_bind ?_))
  rw [Std.Legacy.Range.forIn_eq_forIn_range']
  simp only [Std.Legacy.Range.size, Nat.sub_zero, Nat.add_sub_cancel, Nat.div_one]
  refine wpAny_forIn_list _ (fun l q t => t = s ∧ q = (none, ()) ∧ ∃ i, l = List.range' i (ea.size - i) ∧ i ≤ ea.size) _ ?_ ?_ _ _ ⟨rfl, rfl, 0, by simp, Nat.zero_le _⟩
  · rintro x l q t ⟨rfl, rfl, i, hr, hi⟩
    have hlt : i < ea.size := by
      rcases Nat.lt_or_ge i ea.size with g | g
      · exact g
      · rw [Nat.sub_eq_zero_of_le g] at hr
        cases hr
    have e1 : ea.size - i = (ea.size - (i + 1)) + 1 := by omega
    rw [e1, List.range'_succ] at hr
    injection hr with hx hl'
    subst hx hl'
    refine wpAny_bind (wpAny_dictEntries ga da ?_)
    have hxa : x < xa.length := by omega
    have hka : x < ka.length := by rw [ra.length]; exact hxa
    obtain ⟨y, hy, k1, ⟨k2, k3⟩, k4⟩ := ra.get (List.getElem?_eq_getElem hka)
    obtain ⟨v1, v2⟩ := hp _ (List.getElem_mem hka)
    have hE : ea[x]? = some (entryOfKey (nestedKind X.prog X.w) y) := by
      rw [entry_at la, hy]
      rfl
    rw [hE]
    show wpAny _ _ (holding [(entryOfKey (nestedKind X.prog X.w) y).key, (entryOfKey (nestedKind X.prog X.w) y).val] _ >>= _) _ _ _
    have hyk : (nestedKind X.prog X.w).is t.heap ka[x].1 y.2.1 := key_is I.hok k2 k3
    refine wpAny_bind (wpAny_holding (wpAny_bind ?_))
    show wpAny _ _ (dictFind b (.ref y.2.1) ((nestedKind X.prog X.w).hash y.1)) _ _ _
    rw [← k1]
    have hfound : ∃ (j : Nat) (p : Addr × Value), xb[j]? = some (ka[x].1, p) ∧ RelV ka[x].2 p.2 := by
      obtain ⟨u, hu', ru⟩ := RelO.some_of (v := ka[x].2) (o := (atKey xb ka[x].1).map (·.2)) (by rw [← v1]; exact rb.val _)
      obtain ⟨p, hp1, hp2⟩ := Option.map_eq_some_iff.mp hu'
      unfold atKey at hp1
      obtain ⟨z, hz, ez⟩ := Option.map_eq_some_iff.mp hp1
      have hz1 := List.find?_some hz
      simp only [decide_eq_true_eq] at hz1
      obtain ⟨j, hj⟩ := List.mem_iff_getElem?.mp (List.mem_of_find?_eq_some hz)
      exact ⟨j, p, by rw [hj, ← hz1, ← ez], by rw [hp2]; exact ru⟩
    refine wpAny_dictFind_heap (knd := nestedKind X.prog X.w) (by show A.units + 8 < cLine; omega) hyk gb db lb ib nb (fun hno => ?_) (fun j p hj => ?_)
    · obtain ⟨j, p, hj, _⟩ := hfound
      exact absurd hj (hno j p)
    · obtain ⟨j', p', hj', rp⟩ := hfound
      have ej : j = j' := idxH_unique nb hj hj'
      subst ej
      rw [hj] at hj'
      cases hj'
      refine wpAny_bind (wpAny_dictEntries gb db ?_)
      rw [entry_at lb, hj]
      refine wpAny_holding (eqAt_same k4 rp v2 _ _ _ _ ?_)
      show wpAny _ _ (if (!true) = true then _ else _) _ _ _
      rw [if_neg (by decide)]
      refine wpAny_bind (wpAny_dictEpoch ga da ?_)
      rw [if_neg (by simp)]
      exact wpAny_pure ⟨rfl, rfl, x + 1, rfl, hlt⟩
  · rintro q t ⟨rfl, rfl, _⟩
    exact wpAny_pure h
def rSameN (P : Program) (w : World) (r : Bool) : R2 := fun x y H Q => ∃ a b ka kb, x = .ref a ∧ y = .ref b ∧ ND P w H a ka ∧ ND P w H b kb ∧ ka.length = kb.length ∧ (∀ p ∈ ka, valV kb p.1 = some p.2 ∧ flatB p.2 = true) ∧ Q (.bl r) H
theorem op_eqN (hu : X.A.units + 64 < cLine) : OpR X (compareOp .Eq) (rSameN X.prog X.w true) := by
  intro pins s σ H x y v u Q I rx ry h
  obtain ⟨a, b, ka, kb, rfl, rfl, ea, eb, hl, hp, q⟩ := h
  obtain rfl : v = Value.ref a := rx
  obtain rfl : u = Value.ref b := ry
  obtain ⟨ta, _, _, _⟩ := isDict_at I ea.isDict
  obtain ⟨tb, _, _, _⟩ := isDict_at I eb.isDict
  refine wpAny_richCompare_same_room (op := .Eq) ta tb PySem.F.slot_dict_eq (wpAny_call_entry PySem.F.slot_dict_eq ta PySem.F.entry_dict_eq ?_ (PySem.F.args_dict_eq_2 _ _)) (by omega)
  show wpAny _ _ (Builtin.Dict.dictSlotArgs "__eq__" ⟨[.ref a, .ref b], []⟩ >>= _) _ _ s
  refine wpAny_bind ?_
  unfold Builtin.Dict.dictSlotArgs
  refine wpAny_bind (wpAny_notOrdered_dict ta ?_)
  show wpAny _ _ (pure (Value.ref a, Value.ref b)) _ _ s
  refine wpAny_pure (wpAny_bind (wpAny_isInstance (T := "dict") tb PySem.F.sub_dict_dict ?_))
  simp only [Bool.not_true, Bool.false_eq_true, if_false]
  refine wpAny_bind (wpAny_pure (wpAny_bind (wpAny_pure (wpAny_bind (same_nd (by show X.A.units + 1 + 60 < cLine; omega) I ea eb hl hp (wpAny_pure ⟨_, rfl, ?_, ?_⟩))))))
  · exact fun z => nomatch z
  · exact ⟨.bl true, H, I, rfl, q⟩
theorem op_neN (hu : X.A.units + 64 < cLine) : OpR X (compareOp .NotEq) (rSameN X.prog X.w false) := by
  intro pins s σ H x y v u Q I rx ry h
  obtain ⟨a, b, ka, kb, rfl, rfl, ea, eb, hl, hp, q⟩ := h
  obtain rfl : v = Value.ref a := rx
  obtain rfl : u = Value.ref b := ry
  obtain ⟨ta, _, _, _⟩ := isDict_at I ea.isDict
  obtain ⟨tb, _, _, _⟩ := isDict_at I eb.isDict
  refine wpAny_richCompare_same_room (op := .NotEq) ta tb PySem.F.slot_dict_ne (wpAny_call_entry PySem.F.slot_dict_ne ta PySem.F.entry_dict_ne ?_ (PySem.F.args_dict_ne_2 _ _)) (by omega)
  show wpAny _ _ (Builtin.Dict.dictSlotArgs "__ne__" ⟨[.ref a, .ref b], []⟩ >>= _) _ _ s
  refine wpAny_bind ?_
  unfold Builtin.Dict.dictSlotArgs
  refine wpAny_bind (wpAny_notOrdered_dict ta ?_)
  show wpAny _ _ (pure (Value.ref a, Value.ref b)) _ _ s
  refine wpAny_pure (wpAny_bind (wpAny_isInstance (T := "dict") tb PySem.F.sub_dict_dict ?_))
  simp only [Bool.not_true, Bool.false_eq_true, if_false]
  refine wpAny_bind (wpAny_pure (wpAny_bind (wpAny_pure (wpAny_bind (same_nd (by show X.A.units + 1 + 60 < cLine; omega) I ea eb hl hp (wpAny_pure ⟨_, rfl, ?_, ?_⟩))))))
  · exact fun z => nomatch z
  · exact ⟨.bl false, H, I, rfl, q⟩
theorem eqNK {P : Program} {w : World} (q : X.prog = P) (z : X.w = w) (hu : X.A.units + 64 < cLine) : OpR X (compareOp .Eq) (rSameN P w true) := by
  subst q z
  exact op_eqN hu
theorem neNK {P : Program} {w : World} (q : X.prog = P) (z : X.w = w) (hu : X.A.units + 64 < cLine) : OpR X (compareOp .NotEq) (rSameN P w false) := by
  subst q z
  exact op_neN hu

/-- dict(d) of a dict whose keys hash apart: the same keys and values -/
def rDictN (P : Program) (w : World) : List V → Hp → VK → Prop := fun xs H Q => ∃ d kvs, xs = [.ref d] ∧ ND P w H d kvs ∧ (kvs.map fun p => p.1.hash w).Nodup ∧ (∀ p ∈ kvs, ∃ ks, p.1 = .tup ks) ∧ ∀ p o, H p = none → (p == sysModules) = false → IsND P w H o kvs → Q (.ref p) (L2.upd H p (raw p o))
theorem call_dictN (hu : X.A.units + 64 < cLine) : CallR X (.type "dict") (rDictN X.prog X.w) := by
  intro pins s σ H xs us Q I r h
  obtain ⟨d, kvs, rfl, hd, hh, hk, q⟩ := h
  obtain ⟨u, rfl, ru⟩ := vals1 r
  cases ru
  obtain ⟨zd, sd', xd, rd, dd⟩ := hd.dict I.hok
  obtain ⟨_, o0, e0, _⟩ := id hd
  have hnew : (s.heap.push { cls := .type "dict", data := .dict #[] }).DictOfH (nestedKind X.prog X.w) s.heap.objs.size [] := Heap.DictOfH.new s.heap
  have k0 : ∀ b o, s.heap.get? b = some o → (s.heap.push { cls := .type "dict", data := .dict #[] }).get? b = some o := fun b o e => Heap.get?_push_of_some _ e
  have I1 : Inv X pins σ H { s with heap := s.heap.push { cls := .type "dict", data := .dict #[] } } := I.kept (t' := s.toks) k0
  have dd1 : (s.heap.push { cls := .type "dict", data := .dict #[] }).DictOfH (nestedKind X.prog X.w) d xd := by
    obtain ⟨z1, z2, z3, z4, z5⟩ := hd.dict I1.hok
    obtain ⟨o, es, ep, g1, g2, g3, g4, g5, g6⟩ := dd
    exact ⟨o, es, ep, k0 _ _ g1, g2, g3, g4, ent_is I1.hok rd, g6⟩
  have hlt : d < s.heap.objs.size := by
    obtain ⟨o, es, ep, g1, _⟩ := dd
    exact Heap.lt_size g1
  refine callType_codes (Q₁ := fun obj s₁ => obj = .ref s.heap.objs.size ∧ s₁ = { s with heap := s.heap.push { cls := .type "dict", data := .dict #[] } }) PySem.F.kt_called_dict (PySem.F.kt_typeCall_dict_1 _) PySem.F.entry_dict_init (kt_code_dict_new _ ⟨rfl, rfl⟩) ?_
  rintro obj s₁ ⟨rfl, rfl⟩
  refine ⟨hnew.typeIs, PySem.F.args_dict_init_2 _ _, ?_⟩
  unfold Builtin.«dict.__init__»
  refine wpAny_bind ?_
  unfold Builtin.Dict.selfAndRest
  refine wpAny_bind (wpAny_notOrdered_dict hnew.typeIs ?_)
  show wpAny _ _ (pure (s.heap.objs.size, [Value.ref d])) _ _ _
  refine wpAny_pure ?_
  show wpAny _ _ (Builtin.Dict.updateFrom "dict.__init__" s.heap.objs.size (.ref d) [] .none) _ _ _
  have hz : xd.length ≤ sizeLine := by rw [← rd.length]; exact zd
  have hap : ((xd.map fun x => (nestedKind X.prog X.w).hash x.1)).Nodup := by
    have e : xd.map (fun x => (nestedKind X.prog X.w).hash x.1) = kvs.map fun p => p.1.hash X.w := by
      have := congrArg (List.map (fun k => NestedKey.hash X.w k)) rd.keys
      rw [List.map_map, List.map_map] at this
      exact this.symm
    rw [e]
    exact hh
  refine updateFrom_dictH (knd := nestedKind X.prog X.w) .none (by show X.A.units + 1 + 1 + 8 < cLine; omega) (Nat.ne_of_gt hlt) sd' hnew dd1 (.inr ⟨fun x hx => ?_, hap⟩) (by rw [List.length_nil, Nat.zero_add]; exact hz) fun h' hd' ho' hs' => ⟨rfl, ?_⟩
  · obtain ⟨i, hi⟩ := List.mem_iff_getElem?.mp hx
    have hl : i < kvs.length := by
      rw [rd.length]
      exact (List.getElem?_eq_some_iff.mp hi).1
    obtain ⟨y, hy, k1, ⟨k2, k3⟩, _⟩ := rd.get (List.getElem?_eq_getElem hl)
    rw [hi] at hy
    cases hy
    obtain ⟨ks, ek⟩ := hk _ (List.getElem_mem hl)
    rw [ek] at k2
    have q1 := At.isk I1.hok _ _ _ k2 (show RelV (.ref x.2.1) (.ref x.2.1) from rfl)
    cases q1 with
    | tup g1 g2 _ _ => exact ⟨_, g1, g2⟩
  · have e : storedAllH [] xd = xd := storedAllH_nil_of_nodup xd (by obtain ⟨_, _, _, _, _, _, _, _, hn⟩ := dd; exact hn)
    rw [e] at hd'
    obtain ⟨o, ho, io⟩ := isND_of (H := H) zd rd hd'
    have kp : ∀ b ob, s.heap.get? b = some ob → h'.get? b = some ob := fun b ob eb => (hs'.2 b (Nat.ne_of_lt (Heap.lt_size eb))).trans (k0 _ _ eb)
    exact ⟨.ref s.heap.objs.size, _, Inv.rawnew (s := s) (a := s.heap.objs.size) (t' := s.toks) I kp (Nat.le_refl _) ho, rfl, q _ o (I.hok.fresh (Nat.le_refl _)) (nosys I (Nat.le_refl _)) io⟩
theorem dictNK {P : Program} {w : World} (q : X.prog = P) (z : X.w = w) (hu : X.A.units + 64 < cLine) : CallR X (.type "dict") (rDictN P w) := by
  subst q z
  exact call_dictN hu
end
end Lt

/-! Lt, part E: sum of lists. -/
namespace Lt
open PySem PySem.Spec PyProof.Rows L2

abbrev LAt (h : Heap) (a : Addr) (xs : List Value) : Prop := ∃ n, h.get? a = some { cls := .type "list", data := .seq xs.toArray n }
theorem LAt.keep {h h' : Heap} {a : Addr} {xs : List Value} (x : LAt h a xs) (k : ∀ o, h.get? a = some o → h'.get? a = some o) : LAt h' a xs := let ⟨n, e⟩ := x; ⟨n, k _ e⟩
theorem LAt.isList {h : Heap} {a : Addr} {xs : List Value} (x : LAt h a xs) : h.IsList a xs.toArray := let ⟨n, e⟩ := x; ⟨_, e, rfl, n, rfl⟩
theorem LAt.lt {h : Heap} {a : Addr} {xs : List Value} (x : LAt h a xs) : a < h.objs.size := let ⟨_, e⟩ := x; Heap.lt_size e
theorem flat_take {α : Type} {src : List (List α)} {i : Nat} {x : List α} (h : src[i]? = some x) : (src.take (i + 1)).flatten = (src.take i).flatten ++ x := by
  obtain ⟨hi, e⟩ := List.getElem?_eq_some_iff.mp h
  rw [List.take_succ_eq_append_getElem hi, List.flatten_append, e]
  simp
theorem flat_le {α : Type} (src : List (List α)) (i : Nat) : (src.take i).flatten.length ≤ src.flatten.length := by
  have e : src.flatten = (src.take i).flatten ++ (src.drop i).flatten := by rw [← List.flatten_append, List.take_append_drop]
  rw [e, List.length_append]
  omega
section
variable {P : Program} {w : World} {A : Around}
theorem sum_loop {R : Result → Shared → Prop} {I l S : Addr} {its : List Value} {src : List (List Value)} (hh : A.handled = none) (hl : its.length = src.length) (hz : src.flatten.length ≤ sizeLine) (hSI : S ≠ I) (hlS : l ≠ S) (hlI : l ≠ I) :
    ∀ (k i : Nat) (s : Shared) (acc : Addr) (c : Nat), its.length - i = k → i ≤ its.length → s.heap.IsListIter I l i → s.heap.IsList l its.toArray →
      (∀ (j : Nat) (x : List Value), src[j]? = some x → ∃ b, its[j]? = some (.ref b) ∧ b ≠ S ∧ b ≠ I ∧ LAt s.heap b x) →
      s.heap.get? S = some { cls := .type "list", dict := none, data := .seq #[.ref acc] c, slots := #[] } → acc ≠ S → acc ≠ I → LAt s.heap acc (src.take i).flatten →
      (∀ h' tk p, (∀ b o, b ≠ S → b ≠ I → s.heap.get? b = some o → h'.get? b = some o) → LAt h' p src.flatten → (p = acc ∨ s.heap.objs.size ≤ p) → R (.ok (.ret (.ref p))) { s with heap := h', toks := tk }) →
      codeAny (model P w) A (.builtin "sum.loop" ⟨[.ref I, .ref S, rawInt 2, rawInt 0], []⟩) R s := by
  intro k
  induction k with
  | zero =>
    intro i s acc c hk hi hit hlist hb hS h1 h2 hacc hR
    have e : i = its.length := by omega
    subst e
    refine codeAny_builtin F.entry_sum_loop ?_
    rw [Around.under_plainId F.plain_sum_loop _]
    show wpAny _ A.in1 (seqItems? (.ref S) >>= _) _ _ s
    refine wpAny_bind (wpAny_seqItems hS rfl ?_)
    show wpAny _ A.in1 (tryCatch (pyNext (.ref I)) _ >>= _) _ _ s
    refine wpAny_bind (wpAny_tryCatch (wpAny_pyNext_list_end (A := A.in1) hh hit hlist (by simp) fun h' he => ?_))
    refine wpAny_pure (hR h' s.toks acc (fun b o _ hI e => he b o hI e) ?_ (.inl rfl))
    rw [hl, List.take_length] at hacc
    exact hacc.keep fun o e => he acc o h2 e
  | succ k ih =>
    intro i s acc c hk hi hit hlist hb hS h1 h2 hacc hR
    have hlt : i < its.length := by omega
    obtain ⟨b, hb1, hb2, hb3, hb4⟩ := hb i src[i] (List.getElem?_eq_getElem (by omega))
    refine codeAny_builtin F.entry_sum_loop ?_
    rw [Around.under_plainId F.plain_sum_loop _]
    show wpAny _ A.in1 (seqItems? (.ref S) >>= _) _ _ s
    refine wpAny_bind (wpAny_seqItems hS rfl ?_)
    show wpAny _ A.in1 (tryCatch (pyNext (.ref I)) _ >>= _) _ _ s
    refine wpAny_bind (wpAny_tryCatch (wpAny_pyNext_list_item hit hlist (x := .ref b) (by simpa using hb1) fun h1' hit1 sb1 => ?_))
    have kp1 : ∀ a o, a ≠ I → s.heap.get? a = some o → h1'.get? a = some o := fun a o hne e => (sb1.2 a hne).trans e
    obtain ⟨m1, g1⟩ := hacc.keep (h' := h1') fun o e => kp1 acc o h2 e
    obtain ⟨m2, g2⟩ := hb4.keep (h' := h1') fun o e => kp1 b o hb3 e
    have hlen : (src.take i).flatten.length + src[i].length ≤ sizeLine := by
      have := flat_le src (i + 1)
      rw [flat_take (List.getElem?_eq_getElem (by omega)), List.length_append] at this
      omega
    show wpAny _ A.in1 ((holding [Value.ref b] (binaryOp .Add (.ref acc) (.ref b))).attempt >>= _) _ _ _
    refine wpAny_bind (wpAny_attempt (wpAny_holding (PySem.P.add_list (s := { s with heap := h1' }) g1 g2 ?_ (by rw [List.size_toArray, List.size_toArray]; omega))))
    have kp2 : ∀ a o, h1'.get? a = some o → (h1'.push { cls := .type "list", data := .seq ((src.take i).flatten.toArray ++ src[i].toArray) }).get? a = some o := fun a o e => Heap.get?_push_of_some _ e
    have hS2 := kp2 _ _ (kp1 _ _ hSI hS)
    show wpAny _ A.in1 (updateSeq S (fun _ => #[Value.ref h1'.objs.size]) >>= _) _ _ _
    refine wpAny_bind (wpAny_updateSeq hS2 rfl ?_)
    have hS3 := Heap.get?_update_self (Obj.mapSeq fun _ => #[Value.ref h1'.objs.size]) hS2 rfl
    refine wpAny_bind (wpAny_letGo ?_)
    refine wpAny_bind (wpAny_updateSeq hS3 rfl ?_)
    have hS4 := Heap.get?_update_self (Obj.mapSeq fun _ => #[Value.ref h1'.objs.size]) hS3 rfl
    have hSlt : S < h1'.objs.size := Heap.lt_size (kp1 _ _ hSI hS)
    have hIlt : I < h1'.objs.size := by
      obtain ⟨o, e, _⟩ := hit1
      exact Heap.lt_size e
    have kp3 : ∀ a o, a ≠ S → h1'.get? a = some o → (((h1'.push { cls := .type "list", data := .seq ((src.take i).flatten.toArray ++ src[i].toArray) }).update S (Obj.mapSeq fun _ => #[Value.ref h1'.objs.size])).update S (Obj.mapSeq fun _ => #[Value.ref h1'.objs.size])).get? a = some o := fun a o hne e =>
      (Heap.get?_update_other _ _ (Ne.symm hne)).trans ((Heap.get?_update_other _ _ (Ne.symm hne)).trans (kp2 a o e))
    have hnew : (((h1'.push { cls := .type "list", data := .seq ((src.take i).flatten.toArray ++ src[i].toArray) }).update S (Obj.mapSeq fun _ => #[Value.ref h1'.objs.size])).update S (Obj.mapSeq fun _ => #[Value.ref h1'.objs.size])).get? h1'.objs.size = some { cls := .type "list", data := .seq ((src.take i).flatten.toArray ++ src[i].toArray) } :=
      (Heap.get?_update_other _ _ (Nat.ne_of_lt hSlt)).trans ((Heap.get?_update_other _ _ (Nat.ne_of_lt hSlt)).trans (Heap.get?_push_size _ rfl))
    refine wpAny_pure ⟨plainId_quiet F.plain_sum_loop _, ih (i + 1) _ h1'.objs.size _ (by omega) hlt (hit1.at fun o e => kp3 I o (Ne.symm hSI) e) (hlist.at fun o e => kp3 l o hlS (kp1 l o hlI e)) (fun j x hj => ?_) hS4 (Nat.ne_of_gt hSlt) (Nat.ne_of_gt hIlt) ⟨0, ?_⟩ fun h' tk p kp hp hpp => ?_⟩
    · obtain ⟨b', g1', g2', g3', g4'⟩ := hb j x hj
      exact ⟨b', g1', g2', g3', g4'.keep fun o e => kp3 b' o g2' (kp1 b' o g3' e)⟩
    · rw [hnew, flat_take (List.getElem?_eq_getElem (by omega))]
      simp
    · refine hR h' tk p (fun a o hne hne2 e => kp a o hne hne2 (kp3 a o hne (kp1 a o hne2 e))) hp (.inr ?_)
      have h0 : s.heap.objs.size ≤ h1'.objs.size := Nat.le_of_eq sb1.1.symm
      rcases hpp with q | q
      · rw [q]
        exact h0
      · exact Nat.le_trans h0 (Nat.le_trans (Nat.le_of_lt (Heap.lt_size hnew)) q)
theorem off2 {a n m : Nat} (h : a < n) (e : m = n + 1) : a ≠ n ∧ a ≠ m ∧ n ≠ m ∧ m ≠ n := by omega
theorem args_sum2 (a b : Value) : argsOk "sum" ⟨[a, b], []⟩ := by unfold argsOk; kernel_rfl
theorem call_sum_lists {E : Value → Shared → Prop} {s : Shared} {l b0 : Addr} {its : List Value} {src : List (List Value)} {Q : Value → Shared → Prop} (hh : A.handled = none) (hl : its.length = src.length) (hz : src.flatten.length ≤ sizeLine) (hL : s.heap.IsList l its.toArray) (h0 : LAt s.heap b0 [])
    (hb : ∀ (j : Nat) (x : List Value), src[j]? = some x → ∃ b, its[j]? = some (.ref b) ∧ LAt s.heap b x)
    (h : ∀ h' tk p, (∀ b o, s.heap.get? b = some o → h'.get? b = some o) → LAt h' p src.flatten → (p = b0 ∨ s.heap.objs.size ≤ p) → Q (.ref p) { s with heap := h', toks := tk }) :
    wpAny (model P w) A (call (.builtin "sum") [.ref l, .ref b0]) Q E s := by
  refine call_function_tree F.kind_sum F.plain_sum F.entry_sum (args_sum2 _ _) ?_
  unfold Builtin.«sum»
  simp only [List.length_cons, List.length_nil]
  rw [if_neg (by decide)]
  refine wpAny_bind (wpAny_of_eq (show Builtin.Builtins.bindParams "sum" ["start"] 0 ⟨[.ref b0], []⟩ = pure [some (.ref b0)] from rfl) ?_)
  refine wpAny_bind (wpAny_pyIter_list hL ?_)
  obtain ⟨n0, e0⟩ := h0
  have e0' : (s.heap.push { cls := .type "list_iterator", data := .fields #[.ref l, .int 0 0] }).get? b0 = some { cls := .type "list", data := .seq ([] : List Value).toArray n0 } := Heap.get?_push_of_some _ e0
  have ty0 : ({ s with heap := s.heap.push { cls := .type "list_iterator", data := .fields #[.ref l, .int 0 0] } } : Shared).TypeIs (.ref b0) "list" := ⟨_, e0', rfl⟩
  refine wpAny_bind (wpAny_pure ?_)
  simp only [List.forIn_cons, List.forIn_nil]
  refine wpAny_bind (wpAny_bind (wpAny_bind (wpAny_isInstance (T := "list") (b := false) ty0 (by rw [isSubtype_type]; kernel_rfl) ?_)))
  simp only [Bool.false_eq_true, if_false]
  refine wpAny_pure (wpAny_bind (wpAny_bind (wpAny_isInstance (T := "list") (b := false) ty0 (by rw [isSubtype_type]; kernel_rfl) ?_)))
  simp only [Bool.false_eq_true, if_false]
  refine wpAny_pure (wpAny_bind (wpAny_bind (wpAny_isInstance (T := "list") (b := false) ty0 (by rw [isSubtype_type]; kernel_rfl) ?_)))
  simp only [Bool.false_eq_true, if_false]
  refine wpAny_pure (wpAny_pure ?_)
  refine wpAny_bind (wpAny_newObj_type ?_ (by show 1 ≤ sizeLine; rw [sizeLine_eq]; decide))
  have kp : ∀ b o, s.heap.get? b = some o → ((s.heap.push { cls := .type "list_iterator", data := .fields #[.ref l, .int 0 0] }).push { cls := .type "list", data := .seq #[.ref b0] }).get? b = some o := fun b o e => Heap.get?_push_of_some _ (Heap.get?_push_of_some _ e)
  have hlt : l < s.heap.objs.size := by
    obtain ⟨o, e, _⟩ := hL
    exact Heap.lt_size e
  have hblt : b0 < s.heap.objs.size := Heap.lt_size e0
  have esz : (s.heap.push { cls := .type "list_iterator", data := .fields #[.ref l, .int 0 0] }).objs.size = s.heap.objs.size + 1 := Heap.size_push ..
  refine wpAny_pure ⟨plainId_quiet F.plain_sum_loop _, sum_loop (its := its) (src := src) hh hl hz (l := l) (S := (s.heap.push { cls := .type "list_iterator", data := .fields #[.ref l, .int 0 0] }).objs.size) (I := s.heap.objs.size)
    (off2 hlt esz).2.2.2 (off2 hlt esz).2.1 (off2 hlt esz).1 _ 0 _ b0 0 rfl (Nat.zero_le _) (Heap.IsListIter.at (h := s.heap.push { cls := .type "list_iterator", data := .fields #[.ref l, .int 0 0] }) ⟨_, Heap.get?_push_size _ rfl, rfl, rfl⟩ fun o e => Heap.get?_push_of_some _ e) (hL.at fun o e => kp l o e)
    (fun j x hj => ?_) (Heap.get?_push_size _ rfl) (off2 hblt esz).2.1 (off2 hblt esz).1 ⟨n0, kp _ _ e0⟩ fun h' tk p k hp hpp => ?_⟩
  · obtain ⟨b, e1, e2⟩ := hb j x hj
    have hlb := e2.lt
    exact ⟨b, e1, (off2 hlb esz).2.1, (off2 hlb esz).1, e2.keep fun o e => kp b o e⟩
  · refine h h' tk p (fun b o e => ?_) hp ?_
    · have hlb := Heap.lt_size e
      exact k b o (off2 hlb esz).2.1 (off2 hlb esz).1 (kp b o e)
    · rcases hpp with q | q
      · exact .inl q
      · refine .inr (Nat.le_trans ?_ q)
        show s.heap.objs.size ≤ ((s.heap.push { cls := .type "list_iterator", data := .fields #[.ref l, .int 0 0] }).push { cls := .type "list", data := .seq #[.ref b0] }).objs.size
        rw [Heap.size_push, esz]
        omega
end
section
variable {X : Cx} {K : PySem.W.Frag}
/-- sum(xss, []): one after the other -/
def rSumL (K : PySem.W.Frag) : List V → Hp → VK → Prop := fun vs H Q => ∃ (a b0 : Addr) (bs : List Addr) (xss : List (List V)), vs = [.ref a, .ref b0] ∧ SqL K H a (bs.map V.ref) ∧ H b0 = some (.lst []) ∧ Paired (fun b xs => H b = some (.lst xs)) bs xss ∧ xss.flatten.length ≤ sizeLine ∧
  ∀ p H', Le H H' → H' p = some (.lst xss.flatten) → Q (.ref p) H'
theorem lists_of {pins : List (Addr × Obj)} {σ : L2.St} {H : Hp} {s : Shared} (I : Inv X pins σ H s) : ∀ {bs : List Addr} {xss : List (List V)}, Paired (fun b xs => H b = some (.lst xs)) bs xss →
    ∃ src : List (List Value), src.length = bs.length ∧ Vals xss.flatten src.flatten ∧ ∀ (j : Nat) (x : List Value), src[j]? = some x → ∃ b, bs[j]? = some b ∧ LAt s.heap b x
  | _, _, .nil => ⟨[], rfl, .nil, fun j x e => by simp at e⟩
  | _, _, .cons (a := b) (b := xs) h t => by
    obtain ⟨src, h1, h2, h3⟩ := lists_of I t
    obtain ⟨z, its, n, r, hl, e⟩ := I.lstM h
    refine ⟨its :: src, by rw [List.length_cons, List.length_cons, h1], by rw [List.flatten_cons, List.flatten_cons]; exact r.append h2, fun j x e' => ?_⟩
    cases j with
    | zero =>
      simp at e'
      subst e'
      exact ⟨b, rfl, n, e⟩
    | succ j =>
      obtain ⟨b', g1, g2⟩ := h3 j x (by simpa using e')
      exact ⟨b', by simpa using g1, g2⟩
theorem call_sumL (hc : X.calm = true) : CallR X (.builtin "sum") (rSumL X.K) := by
  intro pins s σ H xs us Q I r h
  obtain ⟨a, b0, bs, xss, rfl, hq, h0, hp, hz, q⟩ := h
  obtain ⟨u1, u2, rfl, r1, r2⟩ := vals2 r
  cases r1
  cases r2
  obtain ⟨its, rv, pl, hz1⟩ := I.list hq
  have ei := refs_at rv
  subst ei
  obtain ⟨src, s1, s2, s3⟩ := lists_of I hp
  obtain ⟨z, its0, n0, r0, hl0, e0⟩ := I.lstM h0
  cases r0
  have e1 := s2.length
  refine call_sum_lists (src := src) (I.ok.hd hc) (by rw [List.length_map, s1]) (by rw [← e1]; exact hz) pl.isList ⟨n0, e0⟩ (fun j x hj => ?_) fun h' tk p kp hpl hpp => ?_
  · obtain ⟨b, g1, g2⟩ := s3 j x hj
    exact ⟨b, by rw [List.getElem?_map, g1]; rfl, g2⟩
  · have I1 : Inv X pins σ H { s with heap := h', toks := tk } := I.kept kp
    rcases hpp with g | g
    · subst g
      refine ⟨.ref p, H, I1, rfl, q p H (.refl H) ?_⟩
      obtain ⟨n, e⟩ := hpl
      have e3 := kp _ _ e0
      rw [e] at e3
      injection e3 with e3
      injection e3 with _ _ e3 _
      injection e3 with e3 _
      have e4 : src.flatten = [] := by simpa using congrArg Array.toList e3
      rw [e4] at s2
      cases hx : xss.flatten with
      | nil => exact h0
      | cons x r =>
        rw [hx] at s2
        cases s2
    · obtain ⟨n, e⟩ := hpl
      have hn := I.hok.fresh g
      exact ⟨.ref p, L2.upd H p (.lst xss.flatten), I.laid kp g ⟨hz, src.flatten, n, s2, e⟩, rfl, q p _ (.new hn) upd_same⟩
theorem sumLK (e : X.K = K) (hc : X.calm = true) : CallR X (.builtin "sum") (rSumL K) := e ▸ call_sumL hc
end
end Lt

/-! Lt, part F: stars; comprehensions of lists; keys of numbers. -/
namespace Lt
open PySem PySem.Spec PyProof.Rows L2

section
variable {X : Cx} {K : PySem.W.Frag} {e : Expr} {es : List Expr} {te : TE} {t : TA} {p : Pos}
theorem pa_starK (q : X.K = K) (he : PE X e te) (hr : PA X es t) (hs : starEach (.Starred e p :: es) X.env = (true, eval e X.env) :: starEach es X.env := by rfl) : PA X (.Starred e p :: es) (StX.tStar K te t) := q ▸ StX.pa_star he hr hs
end
theorem paired_keep {H H' : Hp} {bs : List Addr} {xss : List (List V)} (k : ∀ b xs, b ∈ bs → H b = some (.lst xs) → H' b = some (.lst xs)) (r : Paired (fun b xs => H b = some (.lst xs)) bs xss) : Paired (fun b xs => H' b = some (.lst xs)) bs xss := by
  induction r with
  | nil => exact .nil
  | cons h t ih => exact .cons (k _ _ (by simp) h) (ih fun b xs hb => k b xs (by simp [hb]))
/-- a comprehension whose items are new lists: each told by its contents -/
theorem lc_lists {J : It} {n : Nat} {G : Hp → Prop} {Y : Nat → Hp → V → Hp → Prop} (wk : Walk J n G Y) {g : TG} {tt : TT} {te : TE} {vs : List Nat} {σ : L2.St} {H1 : Hp} {D' : Addr} {Qd : Hp → Prop} (hD : H1 D' = none) (hn : n ≤ 100000)
    (R : Nat → Hp → List V → Prop) (hT : ∀ i H H' xs, R i H xs → Tups H H' → R i H' xs)
    (hG : ∀ H', Le H1 H' → G H')
    (hs : ∀ i x H' H'', i < n → Le H1 H' → Y i H' x H'' → ∀ (Yk : V → Hp → Prop) (Nk : Hp → Prop), (∀ b xs H4, Le H' H4 → H' D' ≠ none → b ≠ D' → H4 b = some (.lst xs) → R i H4 xs → Yk (.ref b) H4) →
      H' D' ≠ none → g x (wipe σ vs) H'' fun σ2 H2 => wipe σ2 vs = wipe σ vs ∧ tt σ2 H2 fun b H3 => if b = true then te σ2 H3 Yk else Nk H3)
    (hd : ∀ H' bs (xss : List (List V)), Le H1 H' → H' D' = some (.lst (bs.map V.ref)) → xss.length = n → Paired (fun b xs => H' b = some (.lst xs)) bs xss → (∀ i xs, xss[i]? = some xs → R i H' xs) → Qd H') :
    ∃ W : Nat → Nat → Hp → Prop, (∃ m, W 0 m (L2.upd H1 D' (.lst []))) ∧ ∀ i m H, W i m H →
      (J.stop i H ∧ Qd H) ∨ (J.go i H ∧ ∃ Nx : Hp → Prop, (∀ H', Nx H' → ∃ m', m' < m ∧ W (i + 1) m' H') ∧ ∀ x H', J.yld i H x H' → g x (wipe σ vs) H' fun σ2 H2 => wipe σ2 vs = wipe σ vs ∧ tt σ2 H2 fun b H3 =>
        if b = true then te σ2 H3 fun y H4 => ∃ acc, H4 D' = some (.lst acc) ∧ acc.length < sizeLine ∧ Nx (L2.upd H4 D' (.lst (acc ++ [y]))) else Nx H3) := by
  refine lc_it wk (fun i H' => Le H1 H' ∧ ∃ bs, ∃ xss : List (List V), H' D' = some (.lst (bs.map V.ref)) ∧ xss.length = i ∧ (∀ b ∈ bs, b ≠ D') ∧ Paired (fun b xs => H' b = some (.lst xs)) bs xss ∧ ∀ j xs, xss[j]? = some xs → R j H' xs)
    ⟨.new hD, [], [], upd_same, rfl, (fun _ h => nomatch h), .nil, (fun j xs h => by simp at h)⟩ (fun i H' _ h => hG H' h.1) (fun i x H' H'' hi h hy => ?_) (fun H' h => ?_)
  · obtain ⟨l, bs, xss, hx, hl, hne, hp, hr⟩ := h
    have hb := hp.length
    refine hs i x H' H'' hi l hy _ _ (fun b xs H4 l4 _ hbD hb4 hR4 => ?_) (by rw [hx]; exact fun h => nomatch h)
    have tp : Tups H4 (L2.upd H4 D' (.lst (bs.map V.ref ++ [.ref b]))) := tups_upd (l4.lst hx) (fun _ z => nomatch z)
    refine ⟨bs.map V.ref, l4.lst hx, ?_, (l.trans l4).mut hD, bs ++ [b], xss ++ [xs], by rw [upd_same, List.map_append]; rfl, by rw [List.length_append, hl]; rfl, fun b' hb' => ?_, ?_, fun j ys hj => ?_⟩
    · rw [List.length_map]
      exact Nat.lt_of_le_of_lt (by omega : bs.length ≤ 100000) (by rw [sizeLine_eq]; decide)
    · rcases List.mem_append.mp hb' with h | h
      · exact hne b' h
      · rw [List.mem_singleton.mp h]
        exact hbD
    · refine Paired.snoc (paired_keep (fun b' xs' hm e => ?_) hp) ?_
      · rw [upd_ne (hne b' hm)]
        exact l4.lst e
      · show L2.upd H4 D' _ b = _
        rw [upd_ne hbD]
        exact hb4
    · by_cases e : j < xss.length
      · rw [List.getElem?_append_left e] at hj
        exact hT _ _ _ _ (hT _ _ _ _ (hr j ys hj) l4.tups) tp
      · rw [List.getElem?_append_right (by omega)] at hj
        have ej : j - xss.length = 0 := by
          have := (List.getElem?_eq_some_iff.mp hj).1
          simp at this
          omega
        rw [ej] at hj
        simp at hj
        subst hj
        have : j = i := by omega
        subst this
        exact hT _ _ _ _ hR4 tp
  · obtain ⟨l, bs, xss, hx, hl, hne, hp, hr⟩ := h
    exact hd H' bs xss l hx hl hp hr
section
variable {X : Cx} {K : PySem.W.Frag}
theorem catTK (e : X.K = K) : OpR X (binaryOp .Add) (rCatT K) := e ▸ op_catT
end
/-! ### the hash of numbers -/
def hashN (p : List Int) : Int := reduceHash (Builtin.Tuple.tupleHashOf (p.map hashInt))
theorem hashes_nums (w : World) : ∀ p : List Int, NestedKey.hashes w (p.map .num) = p.map hashInt
  | [] => by rw [List.map_nil, NestedKey.hashes]; rfl
  | x :: p => by rw [List.map_cons, NestedKey.hashes, NestedKey.hash, hashes_nums w p]; rfl
theorem hash_nums (w : World) (p : List Int) : (NestedKey.tup (p.map .num)).hash w = hashN p := by
  rw [NestedKey.hash, hashes_nums]
  rfl
end Lt

/-! Lt, part G: itertools.permutations of a range. -/
namespace Lt
open PySem PySem.Spec PyProof.Rows L2

abbrev PM : String := "itertools.permutations"
theorem pm_mro : mroOf (.type PM) = pure [.type PM, .type "object"] := by rw [mroOf_type]; kernel_rfl
theorem pm_lookup_new : typeLookup (.type PM) "__new__" = pure (some (.builtin "itertools.permutations.__new__")) := by rw [typeLookup_type, builtinLookup_eq_fast]; kernel_rfl
theorem pm_sub : isSubtype (.type PM) (.type PM) = pure true := by rw [isSubtype_type]; kernel_rfl
theorem pm_slot_init : Slot PM "__init__" "object.__init__" :=
  .of (owner := "object") (n := "__init__") (by rw [typeLookup_type, builtinLookup_eq_fast]; kernel_rfl) (by decide +kernel) (by decide +kernel) (by decide +kernel) (by first | exact .inl (by decide +kernel) | exact .inr (by decide +kernel)) (by rw [isSubtype_type]; kernel_rfl)
theorem pm_called : TypeCalled PM "itertools.permutations.__new__" "object.__init__" := ⟨by decide +kernel, by decide +kernel, ⟨_, _, pm_mro⟩, madeBy_type pm_mro pm_lookup_new (by decide +kernel), by decide +kernel, pm_sub, pm_slot_init⟩
theorem pm_typeCall (a b : Value) : checkTypeCall PM ⟨[a, b], []⟩ = pure () := by kernel_rfl
theorem pm_newCall (a b : Value) : checkBuiltinCall "itertools.permutations.__new__" ⟨[.type PM, a, b], []⟩ = pure () := by kernel_rfl
theorem pm_entry_new : entryFor table "itertools.permutations.__new__" = some Builtin.«itertools.permutations.__new__» := entryFor_of_tree (by kernel_rfl)
theorem pm_entry_next : entryFor table "itertools.permutations.__next__" = some Builtin.«itertools.permutations.__next__» := entryFor_of_tree (by kernel_rfl)
theorem pm_slot_iter : Slot PM "__iter__" "itertools.permutations.__iter__" :=
  .of (owner := PM) (n := "__iter__") (by rw [typeLookup_type, builtinLookup_eq_fast]; kernel_rfl) (by decide +kernel) (by decide +kernel) (by decide +kernel) (by first | exact .inl (by decide +kernel) | exact .inr (by decide +kernel)) pm_sub
theorem pm_slot_next : Slot PM "__next__" "itertools.permutations.__next__" :=
  .of (owner := PM) (n := "__next__") (by rw [typeLookup_type, builtinLookup_eq_fast]; kernel_rfl) (by decide +kernel) (by decide +kernel) (by decide +kernel) (by first | exact .inl (by decide +kernel) | exact .inr (by decide +kernel)) pm_sub
theorem pm_entry_iter : entryFor table "itertools.permutations.__iter__" = some Builtin.«dict_keyiterator.__iter__» :=
  entryFor_alias (id' := "dict_keyiterator.__iter__") (by kernel_rfl) (by first | rfl | decide +kernel | (unfold String.splitOn; simp +decide [String.splitOnAux])) (by decide +kernel) (by kernel_rfl)
theorem pm_noDict : typeHasDict (.type PM) = false := by decide +kernel
theorem pm_owner : Manifest.owners.lookup (String.ofList ['s', 'n', 'o', 'i', 't', 'a', 't', 'u', 'm', 'r', 'e', 'p', '.', 's', 'l', 'o', 'o', 't', 'r', 'e', 't', 'i'].reverse) = some Manifest.sig_itertools_permutations := by kernel_rfl
theorem pm_args_iter (a : Value) : argsOk "itertools.permutations.__iter__" ⟨[a], []⟩ := by
  unfold argsOk; rw [signature?_of (id := "itertools.permutations.__iter__") (n := ['_', '_', 'r', 'e', 't', 'i', '_', '_']) (o := ['s', 'n', 'o', 'i', 't', 'a', 't', 'u', 'm', 'r', 'e', 'p', '.', 's', 'l', 'o', 'o', 't', 'r', 'e', 't', 'i']) (by kernel_rfl) pm_owner]; kernel_rfl
theorem pm_args_next (a : Value) : argsOk "itertools.permutations.__next__" ⟨[a], []⟩ := by
  unfold argsOk; rw [signature?_of (id := "itertools.permutations.__next__") (n := ['_', '_', 't', 'x', 'e', 'n', '_', '_']) (o := ['s', 'n', 'o', 'i', 't', 'a', 't', 'u', 'm', 'r', 'e', 'p', '.', 's', 'l', 'o', 'o', 't', 'r', 'e', 't', 'i']) (by kernel_rfl) pm_owner]; kernel_rfl
end Lt

namespace Lt
open PySem PySem.Spec PyProof.Rows L2
/-- the record of a permutations object -/
def pmObj (tp : Addr) (stage r : Int) (before : Value) (ns : List Nat) : Obj := { cls := .type PM, dict := none, data := .fields ([Value.ref tp, rawInt stage, rawInt r, before] ++ ns.map fun n : Nat => rawInt n).toArray, slots := #[] }
def pmFirst (n r : Nat) : List Nat := List.range n ++ (List.range r).map fun i => n - i
theorem pm_class (x y : Value) : Builtin.Itertools.itClassAndRest "permutations" ⟨[.type PM, x, y], []⟩ = pure (.type PM, [x, y]) := by
  unfold Builtin.Itertools.itClassAndRest
  have h1 : isType (.type PM) = pure true := rfl
  have h2 : isSubtype (.type PM) (.type ("itertools." ++ "permutations")) = pure true := pm_sub
  dsimp only
  rw [h1, h2]
  rfl
theorem pm_bind (x y : Value) : Builtin.Itertools.itBindNamed "permutations" ["iterable", "r"] 1 2 [x, y] [] = pure [some x, some y] := by rfl
section
variable {prog : Program} {w : World} {A : Around} {E : Value → Shared → Prop} {s : Shared} {r : Addr} {a b c : Int} {t u v : Tok} {n : Nat}
theorem pm_code_new {Q₁ : Value → Shared → Prop} {k : Nat} {tk0 : Tok} (hh : A.handled = none) (hr : IsRange s.heap r a b c t u v) (hsmall : Builtin.Range.small a b c = true) (hn : Builtin.Range.rangeSize a b c = n) (hlen : n ≤ 1000) (hk : k ≤ n)
    (h : ∀ (h' : Heap) (tk : Nat) (acc : Array Value), (∀ b o, s.heap.get? b = some o → h'.get? b = some o) → ItemsOf (fun i v => ∃ t, v = .int (a + i * c) t) acc n →
      Q₁ (.ref (h'.objs.size + 1)) { s with heap := (h'.push { cls := .type "tuple", data := .seq acc }).push (pmObj h'.objs.size 0 k .none (pmFirst n k)), toks := tk }) :
    codeAny (model prog w) A (.call (.builtin "itertools.permutations.__new__") ⟨[.type PM, .ref r, .int k tk0], []⟩) (wants Q₁ E) s := by
  refine codeAny_of_tree ?_
  show wpAny _ A.in1 (do checkBuiltinCall "itertools.permutations.__new__" ⟨[.type PM, .ref r, .int k tk0], []⟩; again (.builtin "itertools.permutations.__new__" ⟨[.type PM, .ref r, .int k tk0], []⟩)) _ _ s
  refine wpAny_bind (wpAny_of_eq (pm_newCall _ _) (wpAny_pure ⟨Code.quiet_builtin _ (by decide +kernel), codeAny_builtin pm_entry_new ?_⟩))
  rw [Around.under_plainId (by decide +kernel) _]
  have hsub := pm_sub
  have hTI : s.TypeIs (.ref r) "range" := ⟨_, hr, rfl⟩
  have hh1 : A.in1.handled = none := hh
  have hd := pm_noDict
  show wpAny _ _ (Builtin.Itertools.itClassAndRest "permutations" _ >>= _) _ _ _
  refine wpAny_bind (wpAny_of_eq (pm_class _ _) ?_)
  show wpAny _ _ (Builtin.Itertools.itBindNamed "permutations" _ _ _ _ _ >>= _) _ _ _
  refine wpAny_bind (wpAny_of_eq (pm_bind _ _) ?_)
  show wpAny _ _ (collect _ >>= _) _ _ _
  refine wpAny_bind (collect_range (A := A.in1) hh1 hr hsmall hn (by omega) fun h' tk acc hkp hacc => ?_)
  have hlen' : acc.toList.length = n := by rw [Array.length_toList]; exact hacc.1
  show wpAny _ _ (holding acc.toList _ >>= _) _ _ _
  refine wpAny_bind (wpAny_holding ?_)
  show wpAny _ _ (if (decide ((k : Int) < -2 ^ 63) || decide ((k : Int) ≥ 2 ^ 63)) = true then _ else _) _ _ _
  rw [if_neg (by simp; omega)]
  refine wpAny_pure ?_
  show wpAny _ _ (if (k : Int) < 0 then _ else _) _ _ _
  rw [if_neg (by omega)]
  show wpAny _ _ (if Builtin.Itertools.itTooMany (k : Int) = true then _ else _) _ _ _
  rw [if_neg (by unfold Builtin.Itertools.itTooMany; simp; omega)]
  show wpAny _ _ (newTuple acc.toList >>= _) _ _ _
  refine wpAny_bind (wpAny_newTuple ?_)
  have e1 : acc.toList.toArray = acc := by simp
  have ef : ([Value.ref h'.objs.size, rawInt (if (k : Int).toNat > acc.toList.length then 2 else 0), rawInt ((k : Int).toNat : Nat), Value.none] ++ List.map (fun i : Nat => rawInt (i : Int)) (List.range acc.toList.length) ++ List.map (fun i : Nat => rawInt ((acc.toList.length : Int) - (i : Int))) (List.range (k : Int).toNat)).toArray =
      ([Value.ref h'.objs.size, rawInt 0, rawInt (k : Int), Value.none] ++ (pmFirst n k).map fun n : Nat => rawInt n).toArray := by
    rw [hlen', Int.toNat_natCast, if_neg (by omega), List.append_assoc]
    congr 2
    unfold pmFirst
    rw [List.map_append, List.map_map]
    congr 1
    refine List.map_congr_left fun i hi => ?_
    have := List.mem_range.mp hi
    show rawInt _ = rawInt ((n - i : Nat) : Int)
    rw [Int.ofNat_sub (by omega)]
  show wpAny _ _ (Builtin.Itertools.itNewRecord _ _ >>= _) _ _ _
  refine wpAny_bind ?_
  unfold Builtin.Itertools.itNewRecord
  rw [hd]
  rw [if_pos (by rfl)]
  refine wpAny_newObj_type ?_ ?_
  · refine wpAny_pure ?_
    have q := h h' tk acc hkp hacc
    rw [← e1] at q
    unfold pmObj at q
    rw [← ef, e1] at q
    rw [e1]
    have e2 : (h'.push { cls := .type "tuple", data := .seq acc }).objs.size = h'.objs.size + 1 := by
      show (h'.objs.push _).size = _
      rw [Array.size_push]
    show Q₁ (.ref (h'.push { cls := .type "tuple", data := .seq acc }).objs.size) _
    rw [e2]
    exact q
  · show Array.size _ ≤ _
    rw [List.size_toArray, hlen', Int.toNat_natCast, List.length_append, List.length_append, List.length_map, List.length_map, List.length_range, List.length_range, sizeLine_eq]
    show 4 + n + k ≤ _
    omega
theorem pm_call {Q : Value → Shared → Prop} {k : Nat} {tk0 : Tok} (hh : A.handled = none) (hr : IsRange s.heap r a b c t u v) (hsmall : Builtin.Range.small a b c = true) (hn : Builtin.Range.rangeSize a b c = n) (hlen : n ≤ 1000) (hk : k ≤ n)
    (h : ∀ (h' : Heap) (tk : Nat) (acc : Array Value), (∀ b o, s.heap.get? b = some o → h'.get? b = some o) → ItemsOf (fun i v => ∃ t, v = .int (a + i * c) t) acc n →
      Q (.ref (h'.objs.size + 1)) { s with heap := (h'.push { cls := .type "tuple", data := .seq acc }).push (pmObj h'.objs.size 0 k .none (pmFirst n k)), toks := tk }) :
    wpAny (model prog w) A (call (.type PM) [.ref r, .int k tk0]) Q E s := by
  refine callType_codes (Q₁ := fun obj s₁ => s₁.TypeIs obj PM ∧ Q obj s₁) pm_called (pm_typeCall _ _) F.entry_object_init
    (pm_code_new (A := A.in1) hh hr hsmall hn hlen hk fun h' tk acc hkp hacc => ⟨?_, h h' tk acc hkp hacc⟩) fun obj s₁ h₁ => ?_
  · have e2 : (h'.push { cls := .type "tuple", data := .seq acc }).objs.size = h'.objs.size + 1 := by
      show (h'.objs.push _).size = _
      rw [Array.size_push]
    have q : ((h'.push { cls := .type "tuple", data := .seq acc }).push (pmObj h'.objs.size 0 k .none (pmFirst n k))).get? (h'.objs.size + 1) = some (pmObj h'.objs.size 0 k .none (pmFirst n k)) := by
      rw [← e2]
      exact Heap.get?_push_size _ rfl
    exact ⟨_, q, rfl⟩
  · exact ⟨h₁.1, F.args_object_init_3 obj _ _, object_init_meets pm_called.init.lookup pm_called.made (by decide) prog w A.in1 _ s₁ ⟨h₁.1, rfl, h₁.2⟩⟩
theorem pm_iter {it tp : Addr} {stage r : Int} {bf : Value} {ns : List Nat} {Q : Value → Shared → Prop} (hit : s.heap.get? it = some (pmObj tp stage r bf ns)) (h : Q (.ref it) s) : wpAny (model prog w) A (pyIter (.ref it)) Q E s := by
  have hT : s.TypeIs (.ref it) PM := ⟨_, hit, rfl⟩
  refine wpAny_pyIter_slot hT pm_slot_iter (wpAny_call_entry pm_slot_iter hT pm_entry_iter ?_ (pm_args_iter _))
  show wpAny _ _ (ret (.ref it)) _ _ s
  exact wpAny_pure ⟨_, rfl, PM, _, hT, pm_slot_next.lookup, h⟩
/-- the next arrangement -/
def nextP (n : Nat) : (place : Nat) → (indices cycles : List Nat) → Option (List Nat × List Nat)
  | 0, _, _ => none
  | i + 1, ix, cy =>
    if (cy.getD i 0 - 1 == 0) = true then nextP n i (ix.take i ++ ix.drop (i + 1) ++ [ix.getD i 0]) (cy.set i (n - i))
    else some ((ix.set i (ix.getD (n - (cy.getD i 0 - 1)) 0)).set (n - (cy.getD i 0 - 1)) (ix.getD i 0), cy.set i (cy.getD i 0 - 1))
theorem nextP_is (f : Nat → Nat → List Nat → List Nat → Option (List Nat × List Nat)) (h0 : ∀ n a b, f n 0 a b = none)
    (hs : ∀ n i a b, f n (i + 1) a b = if (b.getD i 0 - 1 == 0) = true then f n i (a.take i ++ a.drop (i + 1) ++ [a.getD i 0]) (b.set i (n - i)) else some ((a.set i (a.getD (n - (b.getD i 0 - 1)) 0)).set (n - (b.getD i 0 - 1)) (a.getD i 0), b.set i (b.getD i 0 - 1))) :
    ∀ n r a b, f n r a b = nextP n r a b
  | n, 0, a, b => h0 n a b
  | n, i + 1, a, b => by
    rw [hs, nextP, nextP_is f h0 hs n i]
theorem pm_nums {tp : Addr} {stage r : Int} {bf : Value} (ns : List Nat) : ((([Value.ref tp, rawInt stage, rawInt r, bf] ++ ns.map fun n : Nat => rawInt n).toArray).toList.drop 4).map (fun | .int n _ => n.toNat | _ => 0) = ns := by
  show List.map _ (ns.map fun n : Nat => rawInt n) = ns
  rw [List.map_map]
  have : ((fun v : Value => match v with | .int n _ => n.toNat | _ => 0) ∘ fun n : Nat => rawInt n) = id := by
    funext n
    rfl
  rw [this, List.map_id]
def pmItems (items : Array Value) (r : Nat) (ix : List Nat) : List Value := (ix.take r).map fun i => items.getD i .none
/-- the item is handed out -/
theorem pm_hand {it tp : Addr} {r : Nat} {bf : Value} {ns ix : List Nat} {items : Array Value} {A1 : Around} {E1 : Value → Shared → Prop} {R : PySem.Fin → Shared → Prop} (hit : s.heap.get? it = some (pmObj tp 1 r bf ns)) (hz : ix.length ≤ 1000)
    (h : ∀ h' T, h'.get? it = some (pmObj tp 1 r (.ref T) ns) → s.heap.objs.size ≤ T → h'.get? T = some { cls := .type "tuple", data := .seq (pmItems items r ix).toArray } → (∀ b o, b ≠ it → s.heap.get? b = some o → h'.get? b = some o) → R (.done (.ret (.ref T))) { s with heap := h' }) :
    wpAny (model prog w) A1 (do
        let t ← newTuple (List.map (fun i => items.getD i Value.none) (List.take r ix))
        let before ← field (Value.ref it) 3
        setField (Value.ref it) 3 t
        letGo [before] [t]
        ret t) R E1 s := by
  refine wpAny_bind (wpAny_newTuple ?_)
  have hl : it ≠ s.heap.objs.size := Nat.ne_of_lt (Heap.lt_size hit)
  have hit1 : (s.heap.push { cls := .type "tuple", data := .seq (pmItems items r ix).toArray }).get? it = some (pmObj tp 1 r bf ns) := Heap.get?_push_of_some _ hit
  refine wpAny_bind (wpAny_field hit1 rfl (x := bf) rfl ?_)
  refine wpAny_bind (wpAny_setField hit1 rfl ?_ ?_)
  · show 3 < Array.size _
    rw [List.size_toArray, List.length_append]
    show 3 < 4 + _
    omega
  show wpAny _ _ (letGo [bf] [.ref s.heap.objs.size] >>= _) _ _ _
  refine wpAny_bind ?_
  unfold letGo
  refine wpAny_bind (wpAny_holding (wpAny_point ?_))
  unfold letGo
  refine wpAny_pure (wpAny_pure ?_)
  refine h _ _ ((Heap.get?_update_self _ hit1 rfl).trans (congrArg some ?_)) (Nat.le_refl _) ?_ (fun b o hb e => ?_)
  · unfold pmObj Obj.mapFields
    simp
  · rw [Heap.get?_update_other _ _ hl]
    exact Heap.get?_push_size _ rfl
  · rw [Heap.get?_update_other _ _ (Ne.symm hb)]
    exact Heap.get?_push_of_some _ e
theorem pm_next0 {it tp : Addr} {r : Nat} {bf : Value} {ns : List Nat} {items : Array Value} {o : Obj} {m : Nat} {Q : Option Value → Shared → Prop} (hit : s.heap.get? it = some (pmObj tp 0 r bf ns)) (htp : s.heap.get? tp = some o) (hd : o.data = .seq items m) (hz : ns.length ≤ 1000)
    (h : ∀ h' T, h'.get? it = some (pmObj tp 1 r (.ref T) ns) → s.heap.objs.size ≤ T → h'.get? T = some { cls := .type "tuple", data := .seq (pmItems items r ns).toArray } → (∀ b o, b ≠ it → s.heap.get? b = some o → h'.get? b = some o) → Q (some (.ref T)) { s with heap := h' }) : wpAny (model prog w) A (pyNext (.ref it)) Q E s := by
  have hT : s.TypeIs (.ref it) PM := ⟨_, hit, rfl⟩
  unfold pyNext
  refine wpAny_bind (wpAny_attempt (wpAny_callSpecial?_slot (name := Str.ofString "__next__") hT pm_slot_next (wpAny_call_entry pm_slot_next hT pm_entry_next ?_ (pm_args_next _))))
  show wpAny _ _ (field (.ref it) 0 >>= _) _ _ s
  refine wpAny_bind (wpAny_field hit rfl (x := .ref tp) rfl ?_)
  show wpAny _ _ (Builtin.Itertools.itPoolItems (.ref tp) >>= _) _ _ s
  refine wpAny_bind ?_
  show wpAny _ _ (seqItems? (.ref tp) >>= _) _ _ s
  refine wpAny_bind (wpAny_seqItems htp hd (wpAny_pure ?_))
  show wpAny _ _ (Builtin.Itertools.itIntField (.ref it) 2 >>= _) _ _ s
  refine wpAny_bind (wpAny_bind (wpAny_field hit rfl (x := rawInt r) rfl (wpAny_pure ?_)))
  show wpAny _ _ (Builtin.Itertools.itNumbersFrom (.ref it) 4 >>= _) _ _ s
  refine wpAny_bind (wpAny_bind (wpAny_load hit (wpAny_pure ?_)))
  generalize hnum : List.map _ (List.drop 4 (([Value.ref tp, rawInt _, rawInt r, bf] ++ ns.map fun n : Nat => rawInt n).toArray.toList)) = nums
  obtain rfl : ns = nums := (pm_nums (tp := tp) (stage := 0) (r := r) (bf := bf) ns).symm.trans hnum
  show wpAny _ _ (Builtin.Itertools.itIntField (.ref it) 1 >>= _) _ _ s
  refine wpAny_bind (wpAny_bind (wpAny_field hit rfl (x := rawInt 0) rfl (wpAny_pure ?_)))
  show wpAny _ _ (setField (.ref it) 1 (rawInt 1) >>= _) _ _ s
  refine wpAny_bind (wpAny_setField hit rfl ?_ ?_)
  · show 1 < Array.size _
    rw [List.size_toArray, List.length_append]
    show 1 < 4 + _
    omega
  have hit1 : (s.heap.update it (Obj.mapFields (·.setIfInBounds 1 (rawInt 1)))).get? it = some (pmObj tp 1 r bf ns) := by
    refine (Heap.get?_update_self _ hit rfl).trans (congrArg some ?_)
    unfold pmObj Obj.mapFields
    simp
  rw [Int.toNat_natCast]
  refine pm_hand (s := { s with heap := s.heap.update it (Obj.mapFields (·.setIfInBounds 1 (rawInt 1))) }) hit1 hz fun h' T e1 e2 e3 e4 => ⟨_, rfl, wpAny_pure ?_⟩
  refine h h' T e1 ?_ e3 fun b o hb e => e4 b o hb ?_
  · rw [show ({ s with heap := s.heap.update it (Obj.mapFields (·.setIfInBounds 1 (rawInt 1))) } : Shared).heap.objs.size = s.heap.objs.size from Heap.size_after_update _ _ _] at e2
    exact e2
  · show (s.heap.update it _).get? b = _
    rw [Heap.get?_update_other _ _ (Ne.symm hb)]
    exact e
theorem pm_next1 {it tp : Addr} {r n : Nat} {bf : Value} {ns ix cy : List Nat} {items : Array Value} {o : Obj} {m : Nat} {Q : Option Value → Shared → Prop} (hit : s.heap.get? it = some (pmObj tp 1 r bf ns)) (htp : s.heap.get? tp = some o) (hd : o.data = .seq items m) (hn : items.size = n)
    (hx : nextP n r (ns.take n) (ns.drop n) = some (ix, cy)) (hz : ix.length + cy.length ≤ 1000)
    (h : ∀ h' T, h'.get? it = some (pmObj tp 1 r (.ref T) (ix ++ cy)) → s.heap.objs.size ≤ T → h'.get? T = some { cls := .type "tuple", data := .seq (pmItems items r ix).toArray } → (∀ b o, b ≠ it → s.heap.get? b = some o → h'.get? b = some o) → Q (some (.ref T)) { s with heap := h' }) : wpAny (model prog w) A (pyNext (.ref it)) Q E s := by
  have hT : s.TypeIs (.ref it) PM := ⟨_, hit, rfl⟩
  unfold pyNext
  refine wpAny_bind (wpAny_attempt (wpAny_callSpecial?_slot (name := Str.ofString "__next__") hT pm_slot_next (wpAny_call_entry pm_slot_next hT pm_entry_next ?_ (pm_args_next _))))
  show wpAny _ _ (field (.ref it) 0 >>= _) _ _ s
  refine wpAny_bind (wpAny_field hit rfl (x := .ref tp) rfl ?_)
  show wpAny _ _ (Builtin.Itertools.itPoolItems (.ref tp) >>= _) _ _ s
  refine wpAny_bind ?_
  show wpAny _ _ (seqItems? (.ref tp) >>= _) _ _ s
  refine wpAny_bind (wpAny_seqItems htp hd (wpAny_pure ?_))
  show wpAny _ _ (Builtin.Itertools.itIntField (.ref it) 2 >>= _) _ _ s
  refine wpAny_bind (wpAny_bind (wpAny_field hit rfl (x := rawInt r) rfl (wpAny_pure ?_)))
  show wpAny _ _ (Builtin.Itertools.itNumbersFrom (.ref it) 4 >>= _) _ _ s
  refine wpAny_bind (wpAny_bind (wpAny_load hit (wpAny_pure ?_)))
  generalize hnum : List.map _ (List.drop 4 (([Value.ref tp, rawInt _, rawInt r, bf] ++ ns.map fun n : Nat => rawInt n).toArray.toList)) = nums
  obtain rfl : ns = nums := (pm_nums (tp := tp) (stage := 1) (r := r) (bf := bf) ns).symm.trans hnum
  show wpAny _ _ (Builtin.Itertools.itIntField (.ref it) 1 >>= _) _ _ s
  refine wpAny_bind (wpAny_bind (wpAny_field hit rfl (x := rawInt 1) rfl (wpAny_pure ?_)))
  rw [Int.toNat_natCast, hn]
  split
  · rename_i z
    exact absurd z (by decide)
  · split
    · rename_i ix' cy' hq
      have hq := (nextP_is _ (fun _ _ _ => rfl) (fun _ _ _ _ => rfl) _ _ _ _).symm.trans hq
      rw [hx] at hq
      cases hq
      refine wpAny_bind ?_
      unfold Builtin.Itertools.itSetNumbersFrom
      refine wpAny_updateFields hit rfl ?_ ?_
      · have hit1 : (s.heap.update it (Obj.mapFields fun fs => fs.extract 0 4 ++ ((ix ++ cy).map fun n : Nat => rawInt n).toArray)).get? it = some (pmObj tp 1 r bf (ix ++ cy)) := by
          refine (Heap.get?_update_self _ hit rfl).trans (congrArg some ?_)
          unfold pmObj Obj.mapFields
          simp
        refine pm_hand (s := { s with heap := s.heap.update it (Obj.mapFields fun fs => fs.extract 0 4 ++ ((ix ++ cy).map fun n : Nat => rawInt n).toArray) }) hit1 (by omega) fun h' T e1 e2 e3 e4 => ⟨_, rfl, wpAny_pure ?_⟩
        refine h h' T e1 ?_ e3 fun b o hb e => e4 b o hb ?_
        · rw [show ({ s with heap := s.heap.update it (Obj.mapFields fun fs => fs.extract 0 4 ++ ((ix ++ cy).map fun n : Nat => rawInt n).toArray) } : Shared).heap.objs.size = s.heap.objs.size from Heap.size_after_update _ _ _] at e2
          exact e2
        · show (s.heap.update it _).get? b = _
          rw [Heap.get?_update_other _ _ (Ne.symm hb)]
          exact e
      · have e9 : (ix ++ cy).length = ix.length + cy.length := List.length_append
        rw [sizeLine_eq, Array.size_append, Array.size_extract, List.size_toArray, List.size_toArray, List.length_map]
        omega
    · rename_i hq
      have hq := (nextP_is _ (fun _ _ _ => rfl) (fun _ _ _ _ => rfl) _ _ _ _).symm.trans hq
      rw [hx] at hq
      cases hq
  · rename_i z1 z2
    exact absurd rfl z2
theorem pm_next2 {it tp : Addr} {r n : Nat} {bf : Value} {ns : List Nat} {items : Array Value} {o : Obj} {m : Nat} {Q : Option Value → Shared → Prop} (hh : A.handled = none) (hit : s.heap.get? it = some (pmObj tp 1 r bf ns)) (htp : s.heap.get? tp = some o) (hd : o.data = .seq items m) (hn : items.size = n)
    (hx : nextP n r (ns.take n) (ns.drop n) = none)
    (h : ∀ h', Heap.ExtBut it s.heap h' → Q none { s with heap := h' }) : wpAny (model prog w) A (pyNext (.ref it)) Q E s := by
  have hT : s.TypeIs (.ref it) PM := ⟨_, hit, rfl⟩
  unfold pyNext
  refine wpAny_bind (wpAny_attempt (wpAny_callSpecial?_slot (name := Str.ofString "__next__") hT pm_slot_next (wpAny_call_entry pm_slot_next hT pm_entry_next ?_ (pm_args_next _))))
  show wpAny _ _ (field (.ref it) 0 >>= _) _ _ s
  refine wpAny_bind (wpAny_field hit rfl (x := .ref tp) rfl ?_)
  show wpAny _ _ (Builtin.Itertools.itPoolItems (.ref tp) >>= _) _ _ s
  refine wpAny_bind ?_
  show wpAny _ _ (seqItems? (.ref tp) >>= _) _ _ s
  refine wpAny_bind (wpAny_seqItems htp hd (wpAny_pure ?_))
  show wpAny _ _ (Builtin.Itertools.itIntField (.ref it) 2 >>= _) _ _ s
  refine wpAny_bind (wpAny_bind (wpAny_field hit rfl (x := rawInt r) rfl (wpAny_pure ?_)))
  show wpAny _ _ (Builtin.Itertools.itNumbersFrom (.ref it) 4 >>= _) _ _ s
  refine wpAny_bind (wpAny_bind (wpAny_load hit (wpAny_pure ?_)))
  generalize hnum : List.map _ (List.drop 4 (([Value.ref tp, rawInt _, rawInt r, bf] ++ ns.map fun n : Nat => rawInt n).toArray.toList)) = nums
  obtain rfl : ns = nums := (pm_nums (tp := tp) (stage := 1) (r := r) (bf := bf) ns).symm.trans hnum
  show wpAny _ _ (Builtin.Itertools.itIntField (.ref it) 1 >>= _) _ _ s
  refine wpAny_bind (wpAny_bind (wpAny_field hit rfl (x := rawInt 1) rfl (wpAny_pure ?_)))
  rw [Int.toNat_natCast, hn]
  split
  · rename_i z
    exact absurd z (by decide)
  · split
    · rename_i ix' cy' hq
      have hq := (nextP_is _ (fun _ _ _ => rfl) (fun _ _ _ _ => rfl) _ _ _ _).symm.trans hq
      rw [hx] at hq
      cases hq
    · refine wpAny_bind (wpAny_setField hit rfl ?_ ?_)
      · show 1 < Array.size _
        rw [List.size_toArray, List.length_append]
        show 1 < 4 + _
        omega
      show wpAny _ _ (Builtin.Itertools.itStop) _ _ _
      unfold Builtin.Itertools.itStop
      refine wpAny_bind ?_; simp only [newExc, newTuple]
      refine wpAny_bind (wpAny_newObj_type ?_ (by size_fits)); refine wpAny_bind (m := firstArgMember _ _) (wpAny_of_eq (a := Value.none) (by first | rfl | (simp only [firstArgMember]; rfl)) ?_)
      refine wpAny_newObj_type ?_ (by size_fits); simp only [raiseNew]; refine wpAny_bind (wpAny_handled ?_)
      first | rw [show A.in1.handled = none from hh] | rw [hh]
      refine wpAny_bind (wpAny_pure (wpAny_throw ?_)); refine wpAny_bind (wpAny_isInstance (T := "StopIteration") (b := true) ⟨_, Heap.get?_push_size _ rfl, rfl⟩ isSubtype_stop ?_)
      refine wpAny_pure (h _ ?_)
      exact (((Heap.SameBut.update ..).extBut).push _).push _
  · rename_i z1 z2
    exact absurd rfl z2
end
/-! ### the walk -/
/-- the course of the arrangements -/
structure PmRun (n k : Nat) (st : List (List Nat × List Nat)) : Prop where
  first : ∃ r, st = (List.range n, (List.range k).map fun i => n - i) :: r
  next : ∀ j p, st[j]? = some p → nextP n k p.1 p.2 = st[j + 1]?
  ok : ∀ p ∈ st, p.1.length = n ∧ p.2.length = k ∧ ∀ x ∈ p.1, x < n
def pmList (a : Int) (k : Nat) (st : List (List Nat × List Nat)) : List (List Int) := st.map fun p => (p.1.take k).map fun i : Nat => a + (i : Int)
def Itp (L : List (List Int)) : It := ⟨fun i _ => i < L.length, fun i H x H' => ∃ T l, x = .ref T ∧ H T = none ∧ H' = L2.upd H T (.tup (l.map .int)) ∧ L[i]? = some l, fun i _ => L.length ≤ i⟩
theorem walk_p {L : List (List Int)} : Walk (Itp L) L.length (fun _ => True) (fun i H x H' => ∃ T l, x = .ref T ∧ H T = none ∧ H' = L2.upd H T (.tup (l.map .int)) ∧ L[i]? = some l) :=
  ⟨fun _ _ hi _ => hi, fun _ _ => Nat.le_refl _, fun _ _ _ _ _ _ y => y⟩
def stn (st : List (List Nat × List Nat)) (j : Nat) : List Nat := match st[j]? with
  | some p => p.1 ++ p.2
  | none => []
theorem pm_vals {a : Int} {n : Nat} {acc : Array Value} (hacc : ItemsOf (fun i v => ∃ t, v = .int (a + i * 1) t) acc n) : ∀ {ix : List Nat}, (∀ x ∈ ix, x < n) → Vals (ix.map fun i : Nat => V.int (a + (i : Int))) (ix.map fun i => acc.getD i .none)
  | [], _ => .nil
  | x :: ix, h => by
    refine .cons ?_ (pm_vals hacc fun y hy => h y (by simp [hy]))
    have hx : x < acc.size := by rw [hacc.1]; exact h x (by simp)
    obtain ⟨t, e⟩ := hacc.2 x acc[x] (Array.getElem?_eq_getElem hx)
    show L2.RelV (V.int (a + (x : Int))) (acc.getD x .none)
    rw [Array.getD_eq_getD_getElem?, Array.getElem?_eq_getElem hx]
    exact ⟨t, by rw [Option.getD_some, e, Int.mul_one]⟩
theorem turn_p {P : Program} {w : World} {K : PySem.W.Frag} {tg : Expr} {a : Int} {n k : Nat} {st : List (List Nat × List Nat)} {acc : Array Value} {m : Nat} {tp it : Addr} (R : PmRun n k st) (hk : k ≤ n) (hn : n ≤ 400)
    (hacc : ItemsOf (fun i v => ∃ t, v = .int (a + i * 1) t) acc n) (hne : tp ≠ it) :
    Turn P w K tg (Itp (pmList a k st)) [it, tp] it (fun i h => h.get? tp = some { cls := .type "tuple", data := .seq acc m } ∧ i ≤ st.length ∧ ∃ bf, h.get? it = some (pmObj tp (if i = 0 then 0 else 1) k bf (stn st (i - 1)))) where
  mem := by simp
  obj := fun i h s b hb => by
    obtain ⟨e1, _, bf, e2⟩ := s
    have e' : b = it ∨ b = tp := by simpa using hb
    rcases e' with z | z
    · rw [z]; exact ⟨_, e2, fun v q => nomatch q⟩
    · rw [z]; exact ⟨_, e1, fun v q => nomatch q⟩
  keep := fun i h h' s kp => let ⟨e1, ei, bf, e2⟩ := s; ⟨kp tp (by simp) _ e1, ei, bf, kp it (by simp) _ e2⟩
  item := by
    intro X hP hw hK hc i pins s σ H E I hf s0 hg
    subst hP hw hK
    obtain ⟨e1, ei, bf, e2⟩ := s0
    have hi : i < st.length := by
      have : i < (pmList a k st).length := hg
      unfold pmList at this
      rw [List.length_map] at this
      exact this
    obtain ⟨o1, o2, o3⟩ := R.ok st[i] (List.getElem_mem hi)
    have hil : it < s.heap.objs.size := Heap.lt_size e2
    have htl : tp < s.heap.objs.size := Heap.lt_size e1
    have fin : ∀ (h' : Heap) (T : Addr), h'.get? it = some (pmObj tp 1 k (.ref T) (stn st i)) → s.heap.objs.size ≤ T → h'.get? T = some { cls := .type "tuple", data := .seq (pmItems acc k st[i].1).toArray } → (∀ b o, b ≠ it → s.heap.get? b = some o → h'.get? b = some o) →
        ∃ u, some (Value.ref T) = some u ∧ wpAny (model X.prog X.w) X.A (letOwnedTupleGo tg (.ref it) u) (fun _ s2 => ∃ x H', Inv X pins σ H' s2 ∧ RelV x u ∧ (Itp (pmList a k st)).yld i H x H' ∧ (s2.heap.get? tp = some { cls := .type "tuple", data := .seq acc m } ∧ i + 1 ≤ st.length ∧ ∃ bf, s2.heap.get? it = some (pmObj tp (if i + 1 = 0 then 0 else 1) k bf (stn st (i + 1 - 1)))) ∧ ∀ b ∈ [it, tp], H' b = none) E { s with heap := h' } := by
      intro h' T f1 f2 f3 f4
      refine ⟨_, rfl, go_of f1 rfl rfl (by decide) ?_⟩
      have hx : ∀ x ∈ st[i].1.take k, x < n := fun x hx => o3 x (List.mem_of_mem_take hx)
      have new : ObjOk X.prog X.w (L2.upd H T (.tup (((st[i].1.take k).map fun i : Nat => a + (i : Int)).map V.int))) h' T (.tup (((st[i].1.take k).map fun i : Nat => a + (i : Int)).map V.int)) := by
        refine ⟨?_, pmItems acc k st[i].1, ?_, ⟨_, f3, rfl, _, rfl⟩⟩
        · rw [List.length_map, List.length_map, List.length_take, sizeLine_eq]
          omega
        · rw [List.map_map]
          exact pm_vals hacc hx
      have I1 : Inv X pins σ (L2.upd H T (.tup (((st[i].1.take k).map fun i : Nat => a + (i : Int)).map V.int))) { s with heap := h' } :=
        I.turnedNew (t' := s.toks) (ch := [it]) (fun b ob hb q => f4 b ob (fun z => hb (by simp [z])) q) (fun b hb => hf b (by simp at hb; simp [hb])) f2 new
      refine ⟨.ref T, _, I1, rfl, ⟨T, _, rfl, I.hok.fresh f2, rfl, ?_⟩, ⟨f4 tp _ hne e1, hi, _, f1⟩, fun b hb => ?_⟩
      · unfold pmList
        rw [List.getElem?_map, List.getElem?_eq_getElem hi]
        rfl
      · have e' : b = it ∨ b = tp := by simpa using hb
        have hbT : b ≠ T := by rcases e' with z | z <;> (rw [z]; exact Nat.ne_of_lt (Nat.lt_of_lt_of_le (by assumption) f2))
        rw [upd_ne hbT]
        exact (hf b hb).1
    cases i with
    | zero =>
      obtain ⟨r, er⟩ := R.first
      have e0 : stn st (0 - 1) = pmFirst n k := by
        unfold stn
        rw [er]
        rfl
      have e0' : stn st 0 = pmFirst n k := e0
      rw [e0] at e2
      have es : st[0].1 = List.range n := by simp [er]
      refine pm_next0 e2 e1 rfl ?_ fun h' T f1 f2 f3 f4 => fin h' T (by rw [e0']; exact f1) f2 ?_ f4
      · unfold pmFirst
        rw [List.length_append, List.length_map, List.length_range, List.length_range]
        omega
      · rw [f3, es]
        unfold pmItems pmFirst
        rw [List.take_append_of_le_length (by rw [List.length_range]; exact hk)]
    | succ i =>
      have hi' : i < st.length := by omega
      obtain ⟨q1, q2, q3⟩ := R.ok st[i] (List.getElem_mem hi')
      have es : stn st (i + 1 - 1) = st[i].1 ++ st[i].2 := by
        show stn st i = _
        unfold stn
        rw [List.getElem?_eq_getElem hi']
      have es' : stn st (i + 1) = st[i + 1].1 ++ st[i + 1].2 := by
        unfold stn
        rw [List.getElem?_eq_getElem hi]
      rw [es] at e2
      have hx := R.next i st[i] (List.getElem?_eq_getElem hi')
      rw [List.getElem?_eq_getElem hi] at hx
      refine pm_next1 (ix := st[i + 1].1) (cy := st[i + 1].2) e2 e1 rfl hacc.1 ?_ (by omega) fun h' T f1 f2 f3 f4 => fin h' T (by rw [es']; exact f1) f2 f3 f4
      rw [List.take_left' q1, List.drop_left' q1]
      exact hx
  done := by
    intro X hP hw hK hc i pins s σ H E I hf s0 hg
    subst hP hw hK
    obtain ⟨e1, ei, bf, e2⟩ := s0
    have hi : st.length ≤ i := by
      have : (pmList a k st).length ≤ i := hg
      unfold pmList at this
      rw [List.length_map] at this
      exact this
    obtain ⟨r, er⟩ := R.first
    obtain ⟨j, rfl⟩ : ∃ j, i = j + 1 := ⟨i - 1, by rw [er] at hi; simp at hi; omega⟩
    have hj : j < st.length := by omega
    obtain ⟨q1, q2, q3⟩ := R.ok st[j] (List.getElem_mem hj)
    have es : stn st (j + 1 - 1) = st[j].1 ++ st[j].2 := by
      show stn st j = _
      unfold stn
      rw [List.getElem?_eq_getElem hj]
    rw [es] at e2
    have hx := R.next j st[j] (List.getElem?_eq_getElem hj)
    rw [List.getElem?_eq_none hi] at hx
    obtain ⟨f0, f1, f2, f3, f4, f5⟩ := hf it (by simp)
    exact pm_next2 (I.ok.hd hc) e2 e1 rfl hacc.1 (by rw [List.take_left' q1, List.drop_left' q1]; exact hx) fun h' eb => ⟨rfl, I.turned (t' := s.toks) (fun b o hb q => eb b o hb q) f0 f1 f3 f4 f5⟩
  self := fun A i s Q E st h => let ⟨_, _, _, e⟩ := st; pm_iter e h
/-! ### permutations(range(a, b), k) -/
def iPerm (ta tb tk : TE) : TI := fun σ H R => ta σ H fun x H1 => tb σ H1 fun y H2 => ∃ (a b : Int), x = .int a ∧ y = .int b ∧ RgOk a b ∧ tk σ H2 fun z H3 => ∃ (k : Nat) (st : List (List Nat × List Nat)), z = .int k ∧ (b - a).toNat ≤ 400 ∧ k ≤ (b - a).toNat ∧ PmRun (b - a).toNat k st ∧ R (Itp (pmList a k st)) H3
theorem Inv.pinned {X : Cx} {pins : List (Addr × Obj)} {σ : L2.St} {H : Hp} {s : Shared} {o : Obj} {t' : Nat} (I : Inv X pins σ H s) (hd : ∀ v, o.data ≠ .cell v) (hf : o.isFreed = false) :
    Inv X ((s.heap.objs.size, o) :: pins) σ H { s with heap := s.heap.push o, toks := t' } := by
  have J : Inv X pins σ H { s with heap := s.heap.push o, toks := t' } := I.kept fun b ob e => Heap.get?_push_of_some _ e
  refine { J with pin := fun p hp => ?_ }
  rcases List.mem_append.mp hp with h | h
  · exact J.pin p (List.mem_append_left _ h)
  · rcases List.mem_cons.mp h with h | h
    · rw [h]
      exact ⟨Heap.get?_push_size _ hf, I.hok.fresh (Nat.le_refl _), Nat.ne_of_gt I.lt, I.nofs (Nat.le_refl _), hd⟩
    · exact J.pin p (List.mem_append_right _ h)
theorem Inv.unpinned {X : Cx} {pins : List (Addr × Obj)} {p : Addr × Obj} {σ : L2.St} {H : Hp} {s : Shared} (I : Inv X (p :: pins) σ H s) : Inv X pins σ H s :=
  { I with pin := fun q hq => I.pin q (by
      rcases List.mem_append.mp hq with h | h
      · exact List.mem_append_left _ h
      · exact List.mem_append_right _ (List.mem_cons_of_mem _ h)) }
theorem pi_perm {X : Cx} {tg e1 e2 e3 : Expr} {ta tb tk : TE} {p p2 pos pos2 : Pos} (hc : X.calm = true) (hg : Gl X "permutations") (hm : X.mg "permutations" = some (.type PM)) (hg2 : Gl X "range") (hm2 : X.mg "range" = none) (ha : PE X e1 ta) (hb : PE X e2 tb) (hk : PE X e3 tk)
    (n1 : starEach [e1, e2] X.env = (false, eval e1 X.env) :: starEach [e2] X.env := by rfl) (n2 : starEach [e2] X.env = (false, eval e2 X.env) :: starEach [] X.env := by rfl) (n3 : (backTo pos2 (starEach [e2] X.env)).any (·.1) = false := by rfl)
    (n4 : starEach [.Call (.Name "range" p2) [e1, e2] [] pos2, e3] X.env = (false, eval (.Call (.Name "range" p2) [e1, e2] [] pos2) X.env) :: starEach [e3] X.env := by rfl) (n5 : starEach [e3] X.env = (false, eval e3 X.env) :: starEach [] X.env := by rfl) (n6 : (backTo pos (starEach [e3] X.env)).any (·.1) = false := by rfl) :
    PI X tg (.Call (.Name "permutations" p) [.Call (.Name "range" p2) [e1, e2] [] pos2, e3] [] pos) (iPerm ta tb tk) := by
  refine ⟨fun pins s σ H R I h => ?_⟩
  refine Call_ (ld_glob I hg hm (callWith_type1 (args_cons ?_ n4) n4 n6))
  refine Call_ (ld_blt I hg2 hm2 boot_range (callWith_type1 (args_cons (thn (ha.run pins s σ H _ I h) fun v s1 ⟨x, H1, I1, r1, q1⟩ => args_cons (thn (hb.run pins s1 σ H1 _ I1 q1) fun u s2 ⟨y, H2, I2, r2, q2⟩ => args_nil ?_) n2) n1) n1 n3))
  obtain ⟨a, b, rfl, rfl, ⟨b1, b2, b3, b4, b5⟩, q3⟩ := q2
  obtain ⟨t, rfl⟩ := r1
  obtain ⟨t', rfl⟩ := r2
  refine call_range_2 ?_
  have Ip := Inv.pinned (t' := s2.toks + 1) (o := { cls := .type "range", data := .fields #[.int a t, .int b t', .int 1 s2.toks] }) I2 (fun v q => nomatch q) rfl
  refine args_cons (thn (hk.run _ _ σ H2 _ Ip q3) fun u s3 ⟨z, H3, I3, r3, k, st, ez, hl, hkn, hrun, q⟩ => args_nil ?_) n5
  subst ez
  obtain ⟨t3, rfl⟩ := r3
  obtain ⟨hr, _⟩ := I3.pin (s2.heap.objs.size, _) (List.mem_append_right _ (List.mem_cons_self ..))
  have I4 : Inv X pins σ H3 s3 := Inv.unpinned I3
  refine pm_call (n := (b - a).toNat) (I4.ok.hd hc) hr (small_one b1 b2 b3 b4) (rangeSize_nat a b) (by omega) hkn fun h' tk acc hkp hacc => ?_
  have e2 : (h'.push { cls := .type "tuple", data := .seq acc }).objs.size = h'.objs.size + 1 := Heap.size_push _ _
  have g1 : ((h'.push { cls := .type "tuple", data := .seq acc }).push (pmObj h'.objs.size 0 k .none (pmFirst (b - a).toNat k))).get? (h'.objs.size + 1) = some (pmObj h'.objs.size 0 k .none (pmFirst (b - a).toNat k)) := by
    rw [← e2]
    exact Heap.get?_push_size _ rfl
  refine pm_iter g1 ?_
  have I5 : Inv X pins σ H3 { s3 with heap := (h'.push { cls := .type "tuple", data := .seq acc }).push (pmObj h'.objs.size 0 k .none (pmFirst (b - a).toNat k)), toks := tk } :=
    I4.kept fun c o e => Heap.get?_push_of_some _ (Heap.get?_push_of_some _ (hkp c o e))
  have I6 : Inv X pins σ H3 { s3 with heap := h', toks := tk } := I4.kept hkp
  refine ⟨h'.objs.size + 1, [h'.objs.size + 1, h'.objs.size], _, _, H3, rfl, I5, turn_p (m := 0) (acc := acc) (tp := h'.objs.size) (it := h'.objs.size + 1) hrun hkn hl hacc (Nat.ne_of_lt (Nat.lt_succ_self _)), ⟨Heap.get?_push_of_some _ (Heap.get?_push_size _ rfl), Nat.zero_le _, .none, ?_⟩, fun c hcm => ?_, q⟩
  · obtain ⟨r, er⟩ := hrun.first
    have e0 : stn st (0 - 1) = pmFirst (b - a).toNat k := by
      unfold stn
      rw [er]
      rfl
    rw [e0]
    exact g1
  · have hle : h'.objs.size ≤ c := by
      have e' : c = h'.objs.size + 1 ∨ c = h'.objs.size := by simpa using hcm
      rcases e' with z | z
      · rw [z]; exact Nat.le_succ _
      · rw [z]; exact Nat.le_refl _
    exact I6.fpOk hle (I6.hok.fresh hle)
end Lt

/-! Lt, part I: a comprehension of data over two clauses; what is never reached. -/
namespace Lt
open PySem PySem.Spec PyProof.Rows L2

/-- the inner loop of a comprehension of two clauses -/
def Inner2 (g1 : TG) (tt1 : TT) (te : TE) (vs1 : List Nat) (D : Addr) (Nx : Hp → Prop) (σ2 : L2.St) (J1 : It) (H4 : Hp) : Prop := ∃ W1 : Nat → Nat → Hp → Prop, (∃ m, W1 0 m H4) ∧ ∀ j k H, W1 j k H →
  (J1.stop j H ∧ Nx H) ∨ (J1.go j H ∧ ∃ Nx1 : Hp → Prop, (∀ H', Nx1 H' → ∃ k', k' < k ∧ W1 (j + 1) k' H') ∧ ∀ x H', J1.yld j H x H' → g1 x (wipe σ2 vs1) H' fun σ3 H5 => wipe σ3 vs1 = wipe σ2 vs1 ∧ tt1 σ3 H5 fun b H6 =>
    if b = true then te σ3 H6 fun y H7 => ∃ acc, H7 D = some (.lst acc) ∧ acc.length < sizeLine ∧ Nx1 (L2.upd H7 D (.lst (acc ++ [y]))) else Nx1 H6)
def LoopC2 (J : It) (g : TG) (tt : TT) (wi1 : TI) (g1 : TG) (tt1 : TT) (te : TE) (vs vs1 : List Nat) (σ : L2.St) (H1 : Hp) (D : Addr) (Q : VK) : Prop := ∃ W : Nat → Nat → Hp → Prop, (∃ m, W 0 m (L2.upd H1 D (.lst []))) ∧ ∀ i m H, W i m H →
  (J.stop i H ∧ Q (.ref D) H) ∨ (J.go i H ∧ ∃ Nx : Hp → Prop, (∀ H', Nx H' → ∃ m', m' < m ∧ W (i + 1) m' H') ∧ ∀ x H', J.yld i H x H' → g x (wipe σ vs) H' fun σ2 H2 => wipe σ2 vs = wipe σ vs ∧ tt σ2 H2 fun b H3 =>
    if b = true then wi1 σ2 H3 fun J1 H4 => Inner2 g1 tt1 te vs1 D Nx σ2 J1 H4 else Nx H3)
theorem lc2_eq {wi : TI} {g : TG} {tt : TT} {wi1 : TI} {g1 : TG} {tt1 : TT} {te : TE} {vs vs1 : List Nat} {σ : L2.St} {H : Hp} {Q : VK} : tLc2 wi g tt wi1 g1 tt1 te vs vs1 σ H Q = wi σ H fun J H1 => ∀ D, H1 D = none → LoopC2 J g tt wi1 g1 tt1 te vs vs1 σ H1 D Q := rfl
theorem flat_small {α : Type} {F : Nat → List α} {n i : Nat} (hi : i ≤ n) : (((List.range i).map F).flatten).length ≤ (((List.range n).map F).flatten).length := by
  obtain ⟨k, rfl⟩ : ∃ k, n = i + k := ⟨n - i, by omega⟩
  rw [List.range_add, List.map_append, List.flatten_append, List.length_append]
  omega
/-- the heap without one */ -/
def del (H : Hp) (a : Addr) : Hp := fun b => if b = a then none else H b
theorem del_self {H : Hp} {a : Addr} : del H a a = none := if_pos rfl
theorem del_ne {H : Hp} {a b : Addr} {o : HO} (h : b ≠ a) (e : H b = some o) : del H a b = some o := (if_neg h).trans e
theorem del_le (H : Hp) (a : Addr) : Le (del H a) H := by
  refine ⟨fun b o e _ => ?_, fun b ps e => ⟨ps, ?_, id⟩⟩ <;>
  · unfold del at e
    split at e
    · cases e
    · exact e
theorem lc2_data {J : It} {n : Nat} {G : Hp → Prop} {Y : Nat → Hp → V → Hp → Prop} (wk : Walk J n G Y) {g : TG} {tt : TT} {wi1 : TI} {g1 : TG} {tt1 : TT} {te : TE} {vs vs1 : List Nat} {σ : L2.St} {H1 : Hp} {D' : Addr} {Q : VK} (hD : H1 D' = none) (F : Nat → List D)
    (hn : (((List.range n).map F).flatten).length ≤ 100000) (hG : ∀ H', Le H1 H' → G H')
    (hs : ∀ i x H' H'', i < n → Le H1 H' → Y i H' x H'' → ∀ (In : L2.St → It → Hp → Prop) (Nk : Hp → Prop),
      (∀ (σ2 : L2.St) (J1 : It) (H4 : Hp) (n1 : Nat) (G1 : Hp → Prop) (Y1 : Nat → Hp → V → Hp → Prop) (F1 : Nat → Option D), Walk J1 n1 G1 Y1 → Le H' H4 → (List.range n1).filterMap F1 = F i → (∀ H5, Le H1 H5 → Le (del H4 D') H5 → G1 H5) →
        (∀ j y H5 H6, j < n1 → Le H1 H5 → Le (del H4 D') H5 → Y1 j H5 y H6 → ∀ (Yk : V → Hp → Prop) (Nk1 : Hp → Prop), (∀ z H7 d, Le H5 H7 → F1 j = some d → At H7 d z → Yk z H7) → (∀ H7, Le H5 H7 → F1 j = none → Nk1 H7) →
          g1 y (wipe σ2 vs1) H6 fun σ3 H7 => wipe σ3 vs1 = wipe σ2 vs1 ∧ tt1 σ3 H7 fun b H8 => if b = true then te σ3 H8 Yk else Nk1 H8) → In σ2 J1 H4) →
      (∀ H4, Le H' H4 → F i = [] → Nk H4) →
      g x (wipe σ vs) H'' fun σ2 H2 => wipe σ2 vs = wipe σ vs ∧ tt σ2 H2 fun b H3 => if b = true then wi1 σ2 H3 fun J1 H4 => In σ2 J1 H4 else Nk H3)
    (hd : ∀ H' xs, Le H1 H' → H' D' = some (.lst xs) → Ats H' (((List.range n).map F).flatten) xs → Q (.ref D') H') : LoopC2 J g tt wi1 g1 tt1 te vs vs1 σ H1 D' Q := by
  let P : List D → Hp → Prop := fun ds H' => Le H1 H' ∧ ∃ xs, H' D' = some (.lst xs) ∧ Ats H' ds xs
  refine ⟨fun i m H => m = n - i ∧ i ≤ n ∧ P (((List.range i).map F).flatten) H, ⟨n, by simp, Nat.zero_le _, .new hD, [], upd_same, Ats.nil⟩, ?_⟩
  rintro i m H ⟨rfl, hi, l, xs, hx, ha⟩
  by_cases hlt : i < n
  · refine .inr ⟨wk.goes i H hlt (hG H l), P (((List.range (i + 1)).map F).flatten), fun H' p' => ⟨n - (i + 1), by omega, rfl, hlt, p'⟩, fun x H' y => ?_⟩
    have eF : ((List.range (i + 1)).map F).flatten = ((List.range i).map F).flatten ++ F i := by
      rw [List.range_succ, List.map_append, List.flatten_append]
      simp
    refine hs i x H H' hlt l (wk.yields i H x H' hlt (hG H l) y) _ _ (fun σ2 J1 H4 n1 G1 Y1 F1 wk1 l4 hF hG1 hs1 => ?_) (fun H4 l4 hF => ?_)
    · refine ⟨fun j k H5 => k = n1 - j ∧ j ≤ n1 ∧ Le (del H4 D') H5 ∧ P (((List.range i).map F).flatten ++ (List.range j).filterMap F1) H5, ⟨n1, by simp, Nat.zero_le _, del_le _ _, l.trans l4, xs, l4.lst hx, ?_⟩, ?_⟩
      · simpa using ha.le l4
      rintro j k H5 ⟨rfl, hj, l5, l5', ys, hy, hb⟩
      by_cases hjl : j < n1
      · refine .inr ⟨wk1.goes j H5 hjl (hG1 H5 l5' l5), fun H6 => Le (del H4 D') H6 ∧ P (((List.range i).map F).flatten ++ (List.range (j + 1)).filterMap F1) H6, fun H6 p6 => ⟨n1 - (j + 1), by omega, rfl, hjl, p6⟩, fun z H6 yz => ?_⟩
        refine hs1 j z H5 H6 hjl l5' l5 (wk1.yields j H5 z H6 hjl (hG1 H5 l5' l5) yz) _ _ (fun v H7 d l7 hFj hv => ?_) (fun H7 l7 hFj => ?_)
        · have hyl : ys.length ≤ 100000 := by
            rw [hb.length, List.length_append]
            have a1 : ((List.range j).filterMap F1).length ≤ (F i).length := by
              rw [← hF]
              obtain ⟨q, rfl⟩ : ∃ q, n1 = j + q := ⟨n1 - j, by omega⟩
              rw [List.range_add, List.filterMap_append, List.length_append]
              omega
            have a2 := flat_small (F := F) (n := n) (i := i + 1) hlt
            rw [eF, List.length_append] at a2
            omega
          have tp : Tups H7 (L2.upd H7 D' (.lst (ys ++ [v]))) := tups_upd (l7.lst hy) (fun _ z => nomatch z)
          refine ⟨ys, l7.lst hy, Nat.lt_of_le_of_lt hyl (by rw [sizeLine_eq]; decide), (l5.trans l7).mut del_self, (l5'.trans l7).mut hD, _, upd_same, ?_⟩
          · rw [range_filterMap, hFj, ← List.append_assoc]
            exact Ats.app ((hb.le l7).tp tp) (Ats.cons (hv.tp tp) Ats.nil)
        · refine ⟨l5.trans l7, l5'.trans l7, ys, l7.lst hy, ?_⟩
          rw [range_filterMap, hFj]
          simpa using hb.le l7
      · obtain rfl : j = n1 := by omega
        refine .inl ⟨wk1.stops H5 (hG1 H5 l5' l5), l5', ys, hy, ?_⟩
        rw [eF, ← hF]
        exact hb
    · refine ⟨l.trans l4, xs, l4.lst hx, ?_⟩
      rw [eF, hF, List.append_nil]
      exact ha.le l4
  · obtain rfl : i = n := by omega
    exact .inl ⟨wk.stops H (hG H l), hd H xs l hx ha⟩
/-- what is never reached -/
def tDead : TS := fun _ _ _ => False
theorem ps_dead {X : Cx} {st : Stmt} : PS X st tDead := ⟨fun _ _ _ _ _ _ h => h.elim⟩
theorem pss_dead {X : Cx} {sts : List Stmt} : PSs X sts tDead := ⟨fun _ _ _ _ _ _ h => h.elim⟩
end Lt

/-! Lt, part J: comprehensions of dicts told by their own object, of one clause and of two. -/
namespace Lt
open PySem PySem.Spec PyProof.Rows L2

section
variable {X : Cx} {pins : List (Addr × Obj)} {σ : L2.St} {H : Hp} {s : Shared} {a : Addr} {y v : V} {u r : Value} {A : Around} {E : Value → Shared → Prop}
theorem dp_dictSet {R : Hp → Prop} {Q : Unit → Shared → Prop} (hu : A.units + 64 < cLine) (I : Inv X pins σ H s) (g : DP X.prog X.w H a y v R) (ry : RelV y u) (rv : RelV v r) (h : ∀ H' s', Inv X pins σ H' s' → R H' → Q () s') :
    wpAny (model X.prog X.w) A (dictSet a u r) Q E s := by
  rcases g with ⟨kvs, k, e, ey, l, kR⟩ | ⟨kvs, k, b, e, ey, ak, hd, l, kR⟩
  · subst ey
    obtain ⟨_, o0, e0, _⟩ := id e
    obtain ⟨z, hs, vs, rel, dd⟩ := e.dict I.hok
    have hz : vs.length ≤ sizeLine := by
      rw [← rel.length]
      unfold lfs
      rw [List.length_map]
      exact z
    have hl : (putK kvs k v).length ≤ sizeLine := by have := length_putK kvs k v; omega
    refine wpAny_dictSet_pairs (hsz := hz) (sg_is ry) dd fun h' dd' hsb => ?_
    obtain ⟨o, ho, i⟩ := isLD_of hl (by rw [← putK_lfs]; exact rel.put (lf k) rv) dd'
    exact h _ _ (Inv.rawset I e0 hsb ho) (kR o i)
  · subst ey
    cases (show u = Value.ref b from ry)
    obtain ⟨_, o0, e0, _⟩ := id e
    obtain ⟨z, hs, xs, rel, dd⟩ := e.dict I.hok
    have hz : xs.length ≤ sizeLine := by rw [← rel.length]; exact z
    have hl : (putK kvs k v).length ≤ sizeLine := by have := length_putK kvs k v; omega
    have hroom : (nestedKind X.prog X.w).room A := by show A.units + 8 < cLine; omega
    refine wpAny_dictSet_heap (hsz := hz) hroom (key_is I.hok ak hd) dd fun h' dd' hsb => ?_
    obtain ⟨o, ho, i⟩ := isND_of (H := H) hl (rel.put ak hd rv) dd'
    exact h _ _ (Inv.rawset I e0 hsb ho) (kR o i)
end
/-- {k: v for tg in iter if ..} -/
def tDc1 (P : Program) (w : World) (wi : TI) (g : TG) (tt : TT) (tk tv : TE) (vs : List Nat) : TE := fun σ H Q => wi σ H fun J H1 => ∀ D, H1 D = none → (D == sysModules) = false → ∃ W : Nat → Nat → Hp → Prop, (∃ m, W 0 m (L2.upd H1 D (raw D newD))) ∧ ∀ i m H, W i m H →
  (J.stop i H ∧ Q (.ref D) H) ∨ (J.go i H ∧ ∃ Nx : Hp → Prop, (∀ H', Nx H' → ∃ m', m' < m ∧ W (i + 1) m' H') ∧ ∀ x H', J.yld i H x H' → g x (wipe σ vs) H' fun σ2 H2 => wipe σ2 vs = wipe σ vs ∧ tt σ2 H2 fun b H3 =>
    if b = true then tk σ2 H3 fun y H4 => tv σ2 H4 fun z H5 => DP P w H5 D y z Nx else Nx H3)
/-- {k: v for tg in iter if .. for tg1 in iter1 if ..} -/
def tDc2 (P : Program) (w : World) (wi : TI) (g : TG) (tt : TT) (wi1 : TI) (g1 : TG) (tt1 : TT) (tk tv : TE) (vs vs1 : List Nat) : TE := fun σ H Q => wi σ H fun J H1 => ∀ D, H1 D = none → (D == sysModules) = false → ∃ W : Nat → Nat → Hp → Prop, (∃ m, W 0 m (L2.upd H1 D (raw D newD))) ∧ ∀ i m H, W i m H →
  (J.stop i H ∧ Q (.ref D) H) ∨ (J.go i H ∧ ∃ Nx : Hp → Prop, (∀ H', Nx H' → ∃ m', m' < m ∧ W (i + 1) m' H') ∧ ∀ x H', J.yld i H x H' → g x (wipe σ vs) H' fun σ2 H2 => wipe σ2 vs = wipe σ vs ∧ tt σ2 H2 fun b H3 =>
    if b = true then wi1 σ2 H3 fun J1 H4 => ∃ W1 : Nat → Nat → Hp → Prop, (∃ m, W1 0 m H4) ∧ ∀ j k H, W1 j k H →
      (J1.stop j H ∧ Nx H) ∨ (J1.go j H ∧ ∃ Nx1 : Hp → Prop, (∀ H', Nx1 H' → ∃ k', k' < k ∧ W1 (j + 1) k' H') ∧ ∀ x H', J1.yld j H x H' → g1 x (wipe σ2 vs1) H' fun σ3 H5 => wipe σ3 vs1 = wipe σ2 vs1 ∧ tt1 σ3 H5 fun b H6 =>
        if b = true then tk σ3 H6 fun y H7 => tv σ3 H7 fun z H8 => DP P w H8 D y z Nx1 else Nx1 H6)
    else Nx H3)
theorem compTurn2_outD (kx vx t_0 i_0 t_1 i_1 : Expr) (ifs_0 ifs_1 : List Expr) (scp : Scope) (pos : Pos) (it : Value) (D : Addr) (env : Env) :
    compTurn (.DictComp kx vx [⟨t_0, i_0, ifs_0, 0⟩, ⟨t_1, i_1, ifs_1, 0⟩] scp pos) 0 it (.ref D) env = (do
      standAt i_0.pos
      match ← pyNext it with
      | none => pure (.done .next)
      | some v =>
        letOwnedTupleGo t_0 it v
        assign t_0 env v
        let mut ok := true
        for c in ifs_0 do
          if ok then ok ← isTrue c env (eval c env)
        if ok then
          let x ← eval i_1 env
          standAt i_1.pos
          let x ← foldedSetIterable i_1 env x
          let _ ← runOwn (.compStart (.DictComp kx vx [⟨t_0, i_0, ifs_0, 0⟩, ⟨t_1, i_1, ifs_1, 0⟩] scp pos) 1 (← holding [x] (pyIter x)) (.ref D) env) env
        again (.compLoop (.DictComp kx vx [⟨t_0, i_0, ifs_0, 0⟩, ⟨t_1, i_1, ifs_1, 0⟩] scp pos) 0 it (.ref D) env)) := by rfl
theorem compTurn2_inD (kx vx t_0 i_0 t_1 i_1 : Expr) (ifs_0 ifs_1 : List Expr) (scp : Scope) (pos : Pos) (it : Value) (D : Addr) (env : Env) :
    compTurn (.DictComp kx vx [⟨t_0, i_0, ifs_0, 0⟩, ⟨t_1, i_1, ifs_1, 0⟩] scp pos) 1 it (.ref D) env = (do
      standAt i_1.pos
      match ← pyNext it with
      | none => pure (.done .next)
      | some v =>
        letOwnedTupleGo t_1 it v
        assign t_1 env v
        let mut ok := true
        for c in ifs_1 do
          if ok then ok ← isTrue c env (eval c env)
        if ok then
          (do
            let kv ← eval kx env
            let vv ← holding [kv] (eval vx env)
            standAt { kx.pos with endLine := vx.pos.endLine, endCol := vx.pos.endCol }
            holding [kv, vv] (dictSet D kv vv))
        again (.compLoop (.DictComp kx vx [⟨t_0, i_0, ifs_0, 0⟩, ⟨t_1, i_1, ifs_1, 0⟩] scp pos) 1 it (.ref D) env)) := by rfl

section
variable {prog : Program} {w : World} {A : Around} {R : Result → Shared → Prop} {s : Shared} {kx vx t_0 i_0 t_1 i_1 : Expr} {ifs_0 ifs_1 : List Expr} {scp : Scope} {pos : Pos} {it : Value} {D : Addr} {env : Env}
/-- the loop of the first clause -/
theorem compLoop2_outD (hs : ∀ x, foldedSetIterable i_1 env x = pure x) (I : Nat → Shared → Prop)
    (trn : ∀ n s, I n s → wpAny (model prog w) A (pyNext it) (fun r t₁ => match r with
      | none => R (.ok .next) t₁
      | some v => wpAny (model prog w) A (letOwnedTupleGo t_0 it v) (fun _ t₁' => wpAny (model prog w) A (assign t_0 env v) (fun _ t₂ =>
          wpAny (model prog w) A (forIn ifs_0 true fun c r => if r = true then do let ok ← isTrue c env (eval c env); pure (ForInStep.yield ok) else pure (ForInStep.yield r)) (fun ok t₃ =>
            if ok = true then wpAny (model prog w) A (eval i_1 env) (fun x t₄ => wpAny (model prog w) A (pyIter x) (fun it_1 t₅ =>
              codeAny (model prog w) A (.compStart (.DictComp kx vx [⟨t_0, i_0, ifs_0, 0⟩, ⟨t_1, i_1, ifs_1, 0⟩] scp pos) 1 it_1 (.ref D) env) (fun r s' => match r with
                | .ok _ => ∃ m, m < n ∧ I m s'
                | .error _ => False) t₅) (notedBy (model prog w) A env fun e s' => R (.error e) s') t₄) (notedBy (model prog w) A env fun e s' => R (.error e) s') t₃
            else ∃ m, m < n ∧ I m t₃) (notedBy (model prog w) A env fun e s' => R (.error e) s') t₂) (notedBy (model prog w) A env fun e s' => R (.error e) s') t₁') (notedBy (model prog w) A env fun e s' => R (.error e) s') t₁) (notedBy (model prog w) A env fun e s' => R (.error e) s') s)
    (n : Nat) (h : I n s) :
    codeAny (model prog w) A (.compLoop (.DictComp kx vx [⟨t_0, i_0, ifs_0, 0⟩, ⟨t_1, i_1, ifs_1, 0⟩] scp pos) 0 it (.ref D) env) R s := by
  refine codeAny_loop rfl I (fun n s hJ => ?_) n h
  show wpAny _ A ((compTurn (.DictComp kx vx [⟨t_0, i_0, ifs_0, 0⟩, ⟨t_1, i_1, ifs_1, 0⟩] scp pos) 0 it (.ref D) env).onRaise (fun x => do noteFrame x env; theTreesLotGoes x)) _ _ s
  refine wpAny_noted ?_
  rw [compTurn2_outD]
  refine wpAny_bind (wpAny_standAt (wpAny_bind (wpAny_mono (trn n s hJ) (fun r t₁ k₁ => ?_) fun _ _ h' => h')))
  cases r with
  | none => exact wpAny_pure k₁
  | some v =>
    refine wpAny_bind (wpAny_mono k₁ (fun _ t₁' k₁' => ?_) fun _ _ h' => h')
    refine wpAny_bind (wpAny_mono k₁' (fun _ t₂ k₂ => wpAny_bind (wpAny_mono k₂ (fun ok t₃ k₃ => ?_) fun _ _ h' => h')) fun _ _ h' => h')
    cases ok with
    | false => exact wpAny_pure ⟨rfl, k₃⟩
    | true =>
      refine wpAny_bind (wpAny_mono k₃ (fun x t₄ k₄ => ?_) fun _ _ h' => h')
      refine wpAny_bind (wpAny_standAt (wpAny_bind (wpAny_of_eq (hs x) (wpAny_bind (wpAny_holding (wpAny_mono k₄ (fun it_1 t₅ k₅ => ?_) fun _ _ h' => h'))))))
      refine wpAny_bind (wpAny_runOwn ?_)
      rw [Around.mark_none]
      refine codeAny_mono k₅ fun r s' hr => ?_
      cases r with
      | ok f =>
        first
          | exact wpAny_pure ⟨rfl, hr⟩
          | exact wpAny_bind (wpAny_pure (wpAny_pure ⟨rfl, hr⟩))
      | error e => exact hr.elim
/-- the loop of the second -/
theorem compLoop2_inD (I : Nat → Shared → Prop)
    (trn : ∀ n s, I n s → wpAny (model prog w) A (pyNext it) (fun r t₁ => match r with
      | none => R (.ok .next) t₁
      | some v => wpAny (model prog w) A (letOwnedTupleGo t_1 it v) (fun _ t₁' => wpAny (model prog w) A (assign t_1 env v) (fun _ t₂ =>
          wpAny (model prog w) A (forIn ifs_1 true fun c r => if r = true then do let ok ← isTrue c env (eval c env); pure (ForInStep.yield ok) else pure (ForInStep.yield r)) (fun ok t₃ =>
            if ok = true then wpAny (model prog w) A (eval kx env) (fun kv t₄ => wpAny (model prog w) A (eval vx env) (fun vv t₅ =>
              wpAny (model prog w) A (dictSet D kv vv) (fun _ t₆ => ∃ m, m < n ∧ I m t₆) (notedBy (model prog w) A env fun e s' => R (.error e) s') t₅) (notedBy (model prog w) A env fun e s' => R (.error e) s') t₄) (notedBy (model prog w) A env fun e s' => R (.error e) s') t₃
            else ∃ m, m < n ∧ I m t₃) (notedBy (model prog w) A env fun e s' => R (.error e) s') t₂) (notedBy (model prog w) A env fun e s' => R (.error e) s') t₁') (notedBy (model prog w) A env fun e s' => R (.error e) s') t₁) (notedBy (model prog w) A env fun e s' => R (.error e) s') s)
    (n : Nat) (h : I n s) :
    codeAny (model prog w) A (.compLoop (.DictComp kx vx [⟨t_0, i_0, ifs_0, 0⟩, ⟨t_1, i_1, ifs_1, 0⟩] scp pos) 1 it (.ref D) env) R s := by
  refine codeAny_loop rfl I (fun n s hJ => ?_) n h
  show wpAny _ A ((compTurn (.DictComp kx vx [⟨t_0, i_0, ifs_0, 0⟩, ⟨t_1, i_1, ifs_1, 0⟩] scp pos) 1 it (.ref D) env).onRaise (fun x => do noteFrame x env; theTreesLotGoes x)) _ _ s
  refine wpAny_noted ?_
  rw [compTurn2_inD]
  refine wpAny_bind (wpAny_standAt (wpAny_bind (wpAny_mono (trn n s hJ) (fun r t₁ k₁ => ?_) fun _ _ h' => h')))
  cases r with
  | none => exact wpAny_pure k₁
  | some v =>
    refine wpAny_bind (wpAny_mono k₁ (fun _ t₁' k₁' => ?_) fun _ _ h' => h')
    refine wpAny_bind (wpAny_mono k₁' (fun _ t₂ k₂ => wpAny_bind (wpAny_mono k₂ (fun ok t₃ k₃ => ?_) fun _ _ h' => h')) fun _ _ h' => h')
    cases ok with
    | false => exact wpAny_pure ⟨rfl, k₃⟩
    | true =>
      exact wpAny_bind (wpAny_bind (wpAny_mono k₃ (fun kv t₄ k₄ => wpAny_bind (wpAny_holding (wpAny_mono k₄ (fun vv t₅ k₅ => wpAny_bind (wpAny_standAt (wpAny_holding (wpAny_mono k₅ (fun _ t₆ k₆ => wpAny_pure ⟨rfl, k₆⟩) fun _ _ h' => h')))) fun _ _ h' => h'))) fun _ _ h' => h'))
/-- the second clause's start -/
theorem compStart1_okD (h_0 : codeAny (model prog w) A (.compLoop (.DictComp kx vx [⟨t_0, i_0, ifs_0, 0⟩, ⟨t_1, i_1, ifs_1, 0⟩] scp pos) 1 it (.ref D) env) R s)
    (h : wpAny (model prog w) A (pyIter it) (fun it' s' => codeAny (model prog w) A (.compLoop (.DictComp kx vx [⟨t_0, i_0, ifs_0, 0⟩, ⟨t_1, i_1, ifs_1, 0⟩] scp pos) 1 it' (.ref D) env) R s')
      (notedBy (model prog w) A env fun x s' => R (.error x) s') s) :
    codeAny (model prog w) A (.compStart (.DictComp kx vx [⟨t_0, i_0, ifs_0, 0⟩, ⟨t_1, i_1, ifs_1, 0⟩] scp pos) 1 it (.ref D) env) R s := by
  refine codeAny_of_tree ?_
  show wpAny _ _ ((compStart (.DictComp kx vx [⟨t_0, i_0, ifs_0, 0⟩, ⟨t_1, i_1, ifs_1, 0⟩] scp pos) 1 it (.ref D) env).onRaise (fun x => do noteFrame x env; standAt theWindowsPlace)) _ _ s
  refine wpAny_notedAt ?_
  unfold compStart
  show wpAny _ _ (ask >>= _) _ _ s
  refine wpAny_bind (wpAny_askSetting (wpAny_ite ?_))
  split
  · first
      | exact wpAny_bind (wpAny_pure (wpAny_pure (And.intro rfl h_0)))
      | exact wpAny_pure (And.intro rfl h_0)
  · first
      | exact wpAny_bind (wpAny_rule (wpAny_bind (wpAny_standAt (wpAny_bind (wpAny_mono h (fun it' s' h' => wpAny_pure (And.intro rfl h')) fun _ _ x => x)))))
      | (refine wpAny_bind (wpAny_rule ?_); show wpAny _ _ (standAt i_1.pos >>= _) _ _ s; exact wpAny_bind (wpAny_standAt (wpAny_bind (wpAny_mono h (fun it' s' h' => wpAny_pure (And.intro rfl h')) fun _ _ x => x))))
end


section
variable {X : Cx}
theorem dc1_core {pins : List (Addr × Obj)} {s : Shared} {σ : L2.St} {H : Hp} {Q : VK} {kx vx tg iter : Expr} {iffs : List Expr} {scp : Scope} {oww : List (Str × Nat)} {pos pos' : Pos} {wi : TI} {g : TG} {tt : TT} {tk tv : TE} {use : Option (Value → Sem Unit)} {Qf : Value → Shared → Prop}
    (hu : X.A.units + 64 < cLine) (hc : X.calm = true) (hNd : X.N.Nodup) (I : Inv X pins σ H s) (hi : PI X tg iter wi) (ok : BlkOk X.N X.env.scope scp oww)
    (hg : ∀ (s : Shared) (H : Hp) (C : Addr) (cq : List (Str × Addr)) (fp : List Addr), PG (X.blk s H scp (compEnvC scp cq C X.env) fp) tg g) (ht : ∀ (s : Shared) (H : Hp) (C : Addr) (cq : List (Str × Addr)) (fp : List Addr), PTs (X.blk s H scp (compEnvC scp cq C X.env) fp) iffs tt)
    (hk : ∀ (s : Shared) (H : Hp) (C : Addr) (cq : List (Str × Addr)) (fp : List Addr), PE (X.blk s H scp (compEnvC scp cq C X.env) fp) kx tk)
    (he : ∀ (s : Shared) (H : Hp) (C : Addr) (cq : List (Str × Addr)) (fp : List Addr), PE (X.blk s H scp (compEnvC scp cq C X.env) fp) vx tv) (hs : ∀ x, foldedSetIterable iter X.env x = pure x)
    (h : tDc1 X.prog X.w wi g tt tk tv (oww.map (·.2)) σ H Q)
    (hZZ : ∀ D C s' m H', Inv X pins σ H' s' → Q (.ref D) H' → s'.heap.Ns C m → FpOk X pins H' C → compPost (model X.prog X.w) X.A X.xe use Qf (.ref D) C (.ok .next) s') :
    wpAny (model X.prog X.w) X.A (comprehension (.DictComp kx vx [⟨tg, iter, iffs, 0⟩] scp pos) scp X.env pos' newDict false (eval iter X.env) use) Qf X.xe s := by
  have hfr : ∀ y ∈ scp.names, y.2 = .free → ∃ c, X.env.cells.lookup y.1 = some c := fun y hy e => by
    rcases ok.free y hy e with kk | kk
    · exact I.ok.has _ (.inl kk)
    · exact I.ok.has _ (.inr kk)
  refine wpAny_comprehension_free (use := use) rfl hs (closure_ok hfr) ok.kind (fun y hy e => by rw [ok.uniq y hy, e])
    (thn (hi.run pins s σ H _ I h) fun xv s_1 hx => thn hx fun itv s_2 h_2 => ?_)
  obtain ⟨it, fp, tn, J, H_2, e, I_2, T, st_2, f_2, q⟩ := h_2
  subst e
  refine wpAny_newObj_type (newEnv_comp ?_)
  generalize hD : s_2.heap.objs.size = D
  have hDs : (D == sysModules) = false := by rw [← hD]; exact nosys I_2 (Nat.le_refl _)
  have hDn : H_2 D = none := I_2.hok.fresh (Nat.le_of_eq hD)
  obtain ⟨W, ⟨m_0, w_0⟩, trn⟩ := q D hDn hDs
  -- the new list
  generalize hs_3 : ({ s_2 with heap := s_2.heap.push { cls := .type "dict", data := .dict #[] } } : Shared) = s_3
  have I_3 : Inv X pins σ (L2.upd H_2 D (raw D newD)) s_3 := by
    rw [← hs_3]
    refine I_2.laid (t' := s_2.toks) (fun b o e => Heap.get?_push_of_some _ e) (Nat.le_of_eq hD) (raw_ok ?_)
    rw [← hD]
    exact Heap.get?_push_size _ rfl
  have h_3 : s_3.heap = s_2.heap.push { cls := .type "dict", data := .dict #[] } := by rw [← hs_3]
  have sz : ∀ b ∈ fp, b < s_2.heap.objs.size := fun b hb => by
    obtain ⟨o, e, _⟩ := T.obj _ _ st_2 b hb
    exact Heap.lt_size e
  have f_3 : ∀ b ∈ fp, FpOk X pins (L2.upd H_2 D (raw D newD)) b ∧ b < s_3.heap.objs.size := fun b hb => by
    have hlt := sz b hb
    refine ⟨⟨?_, (f_2 b hb).2⟩, by rw [h_3, Heap.size_push]; exact Nat.lt_succ_of_lt hlt⟩
    rw [upd_ne (by rw [← hD]; exact Nat.ne_of_lt hlt)]
    exact (f_2 b hb).1
  have st_3 : tn 0 s_3.heap := T.keep _ _ _ st_2 fun b _ o e => by rw [h_3]; exact Heap.get?_push_of_some _ e
  have I_4 := block_start I_3 ok hNd f_3
  have pg := hg s_3 (L2.upd H_2 D (raw D newD)) s_3.heap.objs.size (cellsFrom (s_3.heap.objs.size + 1) scp.names (cloFrom X.env.cells scp.names [])) fp
  have pt := ht s_3 (L2.upd H_2 D (raw D newD)) s_3.heap.objs.size (cellsFrom (s_3.heap.objs.size + 1) scp.names (cloFrom X.env.cells scp.names [])) fp
  have pk := hk s_3 (L2.upd H_2 D (raw D newD)) s_3.heap.objs.size (cellsFrom (s_3.heap.objs.size + 1) scp.names (cloFrom X.env.cells scp.names [])) fp
  have pe := he s_3 (L2.upd H_2 D (raw D newD)) s_3.heap.objs.size (cellsFrom (s_3.heap.objs.size + 1) scp.names (cloFrom X.env.cells scp.names [])) fp
  show codeAny _ _ (.compStart (.DictComp kx vx [⟨tg, iter, iffs, 0⟩] scp pos) 0 (.ref it) (.ref D) (compEnvC scp (cellsFrom (s_3.heap.objs.size + 1) scp.names (cloFrom X.env.cells scp.names [])) s_3.heap.objs.size X.env)) (compPost (model X.prog X.w) X.A X.xe use Qf (.ref D) s_3.heap.objs.size) { s_3 with heap := pushCells (s_3.heap.push { cls := .type "dict", data := .dict #[] }) scp.names }
  have nfp : ∀ b ∈ fp, (L2.upd H_2 D (raw D newD)) b = none := fun b hb => (f_3 b hb).1.1
  generalize hce : compEnvC scp (cellsFrom (s_3.heap.objs.size + 1) scp.names (cloFrom X.env.cells scp.names [])) s_3.heap.objs.size X.env = ce at I_4 pg pt pk pe ⊢
  have cL : ce.locals = s_3.heap.objs.size := by subst hce; rfl
  generalize hH_3 : L2.upd H_2 D (raw D newD) = H_3 at I_3 I_4 pg pt pk pe w_0 nfp f_3
  generalize hs_4 : ({ s_3 with heap := pushCells (s_3.heap.push { cls := .type "dict", data := .dict #[] }) scp.names } : Shared) = s_4 at I_4 ⊢
  have st_4 : tn 0 s_4.heap := T.keep _ _ _ st_3 fun b _ o e => by rw [← hs_4]; exact pushCells_keeps _ _ _ _ (Heap.get?_push_of_some _ e)
  have stt : ∀ {σ' : L2.St} {H' : Hp} {s' : Shared}, Inv (X.blk s_3 H_3 scp ce fp) [] σ' H' s' → (∀ b ∈ fp, H' b = none) → ∀ b ∈ fp, FpOk (X.blk s_3 H_3 scp ce fp) [] H' b := fun {σ' H' s'} I' hn b hb =>
    ⟨hn b hb, (I'.ok.exf b hb).1, I'.ok.exfs b hb, .inl hb, fun x c e => (I'.ok.exf b hb).2 x c e, fun p hp => absurd (show p ∈ ([] : List (Addr × Obj)) ++ [] from hp) (by simp)⟩
  have loop : codeAny (model X.prog X.w) X.A (.compLoop (.DictComp kx vx [⟨tg, iter, iffs, 0⟩] scp pos) 0 (.ref it) (.ref D) ce) (compPost (model X.prog X.w) X.A X.xe use Qf (.ref D) s_3.heap.objs.size) s_4 := by
    refine compLoop_anyD (fun n s' => ∃ i H', Inv (X.blk s_3 H_3 scp ce fp) [] (wipe σ (oww.map (·.2))) H' s' ∧ tn i s'.heap ∧ (∀ b ∈ fp, H' b = none) ∧ W i n H') ?_ m_0 ⟨0, H_3, I_4, st_4, nfp, w_0⟩
    rintro n s_5 ⟨i, H_5, I_5, st_5, n_5, w_5⟩
    rcases trn i n H_5 w_5 with ⟨stop, qq⟩ | ⟨go, Nx, hNx, step⟩
    · have td := T.done (X.blk s_3 H_3 scp ce fp) rfl rfl rfl hc i [] s_5 _ H_5 (fun _ _ => False) I_5 (stt I_5 n_5) st_5 stop
      refine thnF td fun r s_6 ⟨hr, I_6⟩ => ?_
      subst hr
      -- back in the def's context
      have I_7 : Inv X pins σ H_5 s_6 := I_3.call' (ch := fp) I_6.os I_6.base I_6.hok I_6.bare fun b hb => ⟨(f_3 b hb).1.2.2.2.1, (f_3 b hb).1.2.1, (f_3 b hb).1.2.2.2.2.1, (f_3 b hb).1.2.2.2.2.2⟩
      have nC : H_5 s_3.heap.objs.size = none := by
        have z : H_5 ce.locals = none := I_6.free
        rw [cL] at z
        exact z
      obtain ⟨m, hn, _⟩ := I_6.loc
      have hn : s_6.heap.Ns ce.locals m := hn
      rw [cL] at hn
      exact hZZ D s_3.heap.objs.size s_6 m H_5 I_7 qq hn (I_3.fpOk (Nat.le_refl _) nC)
    · have ti := T.item (X.blk s_3 H_3 scp ce fp) rfl rfl rfl hc i [] s_5 _ H_5 (fun _ _ => False) I_5 (stt I_5 n_5) st_5 go
      refine thnF ti fun r s_6 ⟨u, hr, h_6⟩ => ?_
      subst hr
      refine thnF h_6 fun _ s_7 ⟨x, H_7, I_7, r_7, y_7, st_7, n_7⟩ => ?_
      have I_7' := I_7.pinned (stt I_7 n_7) (T.obj _ _ st_7)
      refine thnF (pg.run _ s_7 _ H_7 x u _ I_7' r_7 (step x H_7 y_7)) fun _ s_8 ⟨σ_8, H_8, I_8, hw_8, q_8⟩ => ?_
      refine thnF (pt.run _ s_8 σ_8 H_8 _ I_8 q_8) fun b s_9 ⟨H_9, I_9, q_9⟩ => ?_
      -- the turn's end
      have fin : ∀ {s' : Shared} {H' : Hp}, Inv (X.blk s_3 H_3 scp ce fp) ([] ++ pinsAt fp s_7.heap) σ_8 H' s' → Nx H' → ∃ m, m < n ∧ ∃ i H', Inv (X.blk s_3 H_3 scp ce fp) [] (wipe σ (oww.map (·.2))) H' s' ∧ tn i s'.heap ∧ (∀ b ∈ fp, H' b = none) ∧ W i m H' := fun {s' H'} I' nxt => by
        obtain ⟨m', hm, w'⟩ := hNx H' nxt
        have pinn : ∀ b ∈ fp, ∀ o, s_7.heap.get? b = some o → s'.heap.get? b = some o ∧ H' b = none := fun b hb o e =>
          let zz := I'.pin (b, o) (List.mem_append_right _ (List.mem_append_right _ (mem_pinsAt hb e)))
          ⟨zz.1, zz.2.1⟩
        have hl : (wipe σ (oww.map (·.2))).length = σ_8.length := by rw [← hw_8, wipe_length]
        refine ⟨m', hm, i + 1, H', (I'.unpinned (pins := [])).weak hl (fun j v e => ?_), T.keep _ _ _ st_7 fun b hb o e => (pinn b hb o e).1, fun b hb => ?_, w'⟩
        · rw [← hw_8] at e
          exact (wipe_some e).1
        · obtain ⟨o, e, _⟩ := T.obj _ _ st_7 b hb
          exact (pinn b hb o e).2
      cases b with
      | false =>
        simp only [Bool.false_eq_true, if_false] at q_9 ⊢
        exact fin I_9 q_9
      | true =>
        simp only [if_true] at q_9 ⊢
        refine thnF (pk.run _ s_9 σ_8 H_9 _ I_9 q_9) fun z s_10 ⟨yk, H_10, I_10, r_10, q_10⟩ => ?_
        refine thnF (pe.run _ s_10 σ_8 H_10 _ I_10 q_10) fun z_2 s_11 ⟨yv, H_11, I_11, r_11, dp⟩ => ?_
        exact dp_dictSet (X := X.blk s_3 H_3 scp ce fp) hu I_11 dp r_10 r_11 fun H_12 s_12 I_12 nxt => fin I_12 nxt
  exact codeAny_compStart_dict loop (T.self X.A 0 _ _ _ st_4 loop)

theorem dc2_core {pins : List (Addr × Obj)} {s : Shared} {σ : L2.St} {H : Hp} {Q : VK} {kx vx tg iter tg_1 iter_1 : Expr} {iffs ifs_1 : List Expr} {scp : Scope} {oww : List (Str × Nat)} {vs_1 : List Nat} {pos pos' : Pos} {wi wi_1 : TI} {g g_1 : TG} {tt tt_1 : TT} {tk tv : TE} {use : Option (Value → Sem Unit)} {Qf : Value → Shared → Prop}
    (hu : X.A.units + 64 < cLine) (hc : X.calm = true) (hNd : X.N.Nodup) (I : Inv X pins σ H s) (hi : PI X tg iter wi) (ok : BlkOk X.N X.env.scope scp oww) (hv : ∀ i ∈ vs_1, i ∈ oww.map (·.2))
    (hg : ∀ (s : Shared) (H : Hp) (C : Addr) (cq : List (Str × Addr)) (fp : List Addr), PG (X.blk s H scp (compEnvC scp cq C X.env) fp) tg g) (ht : ∀ (s : Shared) (H : Hp) (C : Addr) (cq : List (Str × Addr)) (fp : List Addr), PTs (X.blk s H scp (compEnvC scp cq C X.env) fp) iffs tt)
    (hk : ∀ (s : Shared) (H : Hp) (C : Addr) (cq : List (Str × Addr)) (fp : List Addr), PE (X.blk s H scp (compEnvC scp cq C X.env) fp) kx tk) (he : ∀ (s : Shared) (H : Hp) (C : Addr) (cq : List (Str × Addr)) (fp : List Addr), PE (X.blk s H scp (compEnvC scp cq C X.env) fp) vx tv) (hs : ∀ x, foldedSetIterable iter X.env x = pure x)
    (hi_1 : ∀ (s : Shared) (H : Hp) (C : Addr) (cq : List (Str × Addr)) (fp : List Addr), PI (X.blk s H scp (compEnvC scp cq C X.env) fp) tg_1 iter_1 wi_1)
    (hg_1 : ∀ (s : Shared) (H : Hp) (C : Addr) (cq : List (Str × Addr)) (fp : List Addr), PG (X.blk s H scp (compEnvC scp cq C X.env) fp) tg_1 g_1)
    (ht_1 : ∀ (s : Shared) (H : Hp) (C : Addr) (cq : List (Str × Addr)) (fp : List Addr), PTs (X.blk s H scp (compEnvC scp cq C X.env) fp) ifs_1 tt_1)
    (hs_1 : ∀ env x, foldedSetIterable iter_1 env x = pure x)
    (h : tDc2 X.prog X.w wi g tt wi_1 g_1 tt_1 tk tv (oww.map (·.2)) vs_1 σ H Q)
    (hZZ : ∀ D C s' m H', Inv X pins σ H' s' → Q (.ref D) H' → s'.heap.Ns C m → FpOk X pins H' C → compPost (model X.prog X.w) X.A X.xe use Qf (.ref D) C (.ok .next) s') :
    wpAny (model X.prog X.w) X.A (comprehension (.DictComp kx vx [⟨tg, iter, iffs, 0⟩, ⟨tg_1, iter_1, ifs_1, 0⟩] scp pos) scp X.env pos' newDict false (eval iter X.env) use) Qf X.xe s := by
  have hfr : ∀ y ∈ scp.names, y.2 = .free → ∃ c, X.env.cells.lookup y.1 = some c := fun y hy e => by
    rcases ok.free y hy e with kk | kk
    · exact I.ok.has _ (.inl kk)
    · exact I.ok.has _ (.inr kk)
  refine wpAny_comprehension_free (use := use) rfl hs (closure_ok hfr) ok.kind (fun y hy e => by rw [ok.uniq y hy, e])
    (thn (hi.run pins s σ H _ I h) fun xv s_1 hx => thn hx fun itv s_2 h_2 => ?_)
  obtain ⟨it, fp, tn, J, H_2, e, I_2, T, st_2, f_2, q⟩ := h_2
  subst e
  refine wpAny_newObj_type (newEnv_comp ?_)
  generalize hD : s_2.heap.objs.size = D
  have hDs : (D == sysModules) = false := by rw [← hD]; exact nosys I_2 (Nat.le_refl _)
  have hDn : H_2 D = none := I_2.hok.fresh (Nat.le_of_eq hD)
  obtain ⟨W, ⟨m_0, w_0⟩, trn⟩ := q D hDn hDs
  -- the new list
  generalize hs_3 : ({ s_2 with heap := s_2.heap.push { cls := .type "dict", data := .dict #[] } } : Shared) = s_3
  have I_3 : Inv X pins σ (L2.upd H_2 D (raw D newD)) s_3 := by
    rw [← hs_3]
    refine I_2.laid (t' := s_2.toks) (fun b o e => Heap.get?_push_of_some _ e) (Nat.le_of_eq hD) (raw_ok ?_)
    rw [← hD]
    exact Heap.get?_push_size _ rfl
  have h_3 : s_3.heap = s_2.heap.push { cls := .type "dict", data := .dict #[] } := by rw [← hs_3]
  have sz : ∀ b ∈ fp, b < s_2.heap.objs.size := fun b hb => by
    obtain ⟨o, e, _⟩ := T.obj _ _ st_2 b hb
    exact Heap.lt_size e
  have f_3 : ∀ b ∈ fp, FpOk X pins (L2.upd H_2 D (raw D newD)) b ∧ b < s_3.heap.objs.size := fun b hb => by
    have hlt := sz b hb
    refine ⟨⟨?_, (f_2 b hb).2⟩, by rw [h_3, Heap.size_push]; exact Nat.lt_succ_of_lt hlt⟩
    rw [upd_ne (by rw [← hD]; exact Nat.ne_of_lt hlt)]
    exact (f_2 b hb).1
  have st_3 : tn 0 s_3.heap := T.keep _ _ _ st_2 fun b _ o e => by rw [h_3]; exact Heap.get?_push_of_some _ e
  have I_4 := block_start I_3 ok hNd f_3
  have pg := hg s_3 (L2.upd H_2 D (raw D newD)) s_3.heap.objs.size (cellsFrom (s_3.heap.objs.size + 1) scp.names (cloFrom X.env.cells scp.names [])) fp
  have pt := ht s_3 (L2.upd H_2 D (raw D newD)) s_3.heap.objs.size (cellsFrom (s_3.heap.objs.size + 1) scp.names (cloFrom X.env.cells scp.names [])) fp
  have pe := he s_3 (L2.upd H_2 D (raw D newD)) s_3.heap.objs.size (cellsFrom (s_3.heap.objs.size + 1) scp.names (cloFrom X.env.cells scp.names [])) fp
  have pk := hk s_3 (L2.upd H_2 D (raw D newD)) s_3.heap.objs.size (cellsFrom (s_3.heap.objs.size + 1) scp.names (cloFrom X.env.cells scp.names [])) fp
  have pi_1 := hi_1 s_3 (L2.upd H_2 D (raw D newD)) s_3.heap.objs.size (cellsFrom (s_3.heap.objs.size + 1) scp.names (cloFrom X.env.cells scp.names [])) fp
  have pg_1 := hg_1 s_3 (L2.upd H_2 D (raw D newD)) s_3.heap.objs.size (cellsFrom (s_3.heap.objs.size + 1) scp.names (cloFrom X.env.cells scp.names [])) fp
  have pt_1 := ht_1 s_3 (L2.upd H_2 D (raw D newD)) s_3.heap.objs.size (cellsFrom (s_3.heap.objs.size + 1) scp.names (cloFrom X.env.cells scp.names [])) fp
  show codeAny _ _ (.compStart (.DictComp kx vx [⟨tg, iter, iffs, 0⟩, ⟨tg_1, iter_1, ifs_1, 0⟩] scp pos) 0 (.ref it) (.ref D) (compEnvC scp (cellsFrom (s_3.heap.objs.size + 1) scp.names (cloFrom X.env.cells scp.names [])) s_3.heap.objs.size X.env)) (compPost (model X.prog X.w) X.A X.xe use Qf (.ref D) s_3.heap.objs.size) { s_3 with heap := pushCells (s_3.heap.push { cls := .type "dict", data := .dict #[] }) scp.names }
  have nfp : ∀ b ∈ fp, (L2.upd H_2 D (raw D newD)) b = none := fun b hb => (f_3 b hb).1.1
  generalize hce : compEnvC scp (cellsFrom (s_3.heap.objs.size + 1) scp.names (cloFrom X.env.cells scp.names [])) s_3.heap.objs.size X.env = ce at I_4 pg pt pe pk pi_1 pg_1 pt_1 ⊢
  have cL : ce.locals = s_3.heap.objs.size := by subst hce; rfl
  generalize hH_3 : L2.upd H_2 D (raw D newD) = H_3 at I_3 I_4 pg pt pe pk pi_1 pg_1 pt_1 w_0 nfp f_3
  generalize hs_4 : ({ s_3 with heap := pushCells (s_3.heap.push { cls := .type "dict", data := .dict #[] }) scp.names } : Shared) = s_4 at I_4 ⊢
  have st_4 : tn 0 s_4.heap := T.keep _ _ _ st_3 fun b _ o e => by rw [← hs_4]; exact pushCells_keeps _ _ _ _ (Heap.get?_push_of_some _ e)
  have stt : ∀ {σ' : L2.St} {H' : Hp} {s' : Shared}, Inv (X.blk s_3 H_3 scp ce fp) [] σ' H' s' → (∀ b ∈ fp, H' b = none) → ∀ b ∈ fp, FpOk (X.blk s_3 H_3 scp ce fp) [] H' b := fun {σ' H' s'} I' hn b hb =>
    ⟨hn b hb, (I'.ok.exf b hb).1, I'.ok.exfs b hb, .inl hb, fun x c e => (I'.ok.exf b hb).2 x c e, fun p hp => absurd (show p ∈ ([] : List (Addr × Obj)) ++ [] from hp) (by simp)⟩
  have loop : codeAny (model X.prog X.w) X.A (.compLoop (.DictComp kx vx [⟨tg, iter, iffs, 0⟩, ⟨tg_1, iter_1, ifs_1, 0⟩] scp pos) 0 (.ref it) (.ref D) ce) (compPost (model X.prog X.w) X.A X.xe use Qf (.ref D) s_3.heap.objs.size) s_4 := by
    refine compLoop2_outD (hs_1 ce) (fun n s' => ∃ i H', Inv (X.blk s_3 H_3 scp ce fp) [] (wipe σ (oww.map (·.2))) H' s' ∧ tn i s'.heap ∧ (∀ b ∈ fp, H' b = none) ∧ W i n H') ?_ m_0 ⟨0, H_3, I_4, st_4, nfp, w_0⟩
    rintro n s_5 ⟨i, H_5, I_5, st_5, n_5, w_5⟩
    rcases trn i n H_5 w_5 with ⟨stop, qq⟩ | ⟨go, Nx, hNx, step⟩
    · have td := T.done (X.blk s_3 H_3 scp ce fp) rfl rfl rfl hc i [] s_5 _ H_5 (fun _ _ => False) I_5 (stt I_5 n_5) st_5 stop
      refine thnF td fun r s_6 ⟨hr, I_6⟩ => ?_
      subst hr
      -- back in the def's context
      have I_7 : Inv X pins σ H_5 s_6 := I_3.call' (ch := fp) I_6.os I_6.base I_6.hok I_6.bare fun b hb => ⟨(f_3 b hb).1.2.2.2.1, (f_3 b hb).1.2.1, (f_3 b hb).1.2.2.2.2.1, (f_3 b hb).1.2.2.2.2.2⟩
      have nC : H_5 s_3.heap.objs.size = none := by
        have z : H_5 ce.locals = none := I_6.free
        rw [cL] at z
        exact z
      obtain ⟨m, hn, _⟩ := I_6.loc
      have hn : s_6.heap.Ns ce.locals m := hn
      rw [cL] at hn
      exact hZZ D s_3.heap.objs.size s_6 m H_5 I_7 qq hn (I_3.fpOk (Nat.le_refl _) nC)
    · have ti := T.item (X.blk s_3 H_3 scp ce fp) rfl rfl rfl hc i [] s_5 _ H_5 (fun _ _ => False) I_5 (stt I_5 n_5) st_5 go
      refine thnF ti fun r s_6 ⟨u, hr, h_6⟩ => ?_
      subst hr
      refine thnF h_6 fun _ s_7 ⟨x, H_7, I_7, r_7, y_7, st_7, n_7⟩ => ?_
      have I_7' := I_7.pinned (stt I_7 n_7) (T.obj _ _ st_7)
      refine thnF (pg.run _ s_7 _ H_7 x u _ I_7' r_7 (step x H_7 y_7)) fun _ s_8 ⟨σ_8, H_8, I_8, hw_8, q_8⟩ => ?_
      refine thnF (pt.run _ s_8 σ_8 H_8 _ I_8 q_8) fun b s_9 ⟨H_9, I_9, q_9⟩ => ?_
      -- the turn's end, from any slots that know what the block knew at its start
      have fin : ∀ {σ_9 : L2.St} {s' : Shared} {H' : Hp}, Inv (X.blk s_3 H_3 scp ce fp) ([] ++ pinsAt fp s_7.heap) σ_9 H' s' → (wipe σ (oww.map (·.2))).length = σ_9.length → (∀ (j : Nat) v, (wipe σ (oww.map (·.2)))[j]? = some (some v) → σ_9[j]? = some (some v)) → Nx H' →
          ∃ m, m < n ∧ ∃ i H', Inv (X.blk s_3 H_3 scp ce fp) [] (wipe σ (oww.map (·.2))) H' s' ∧ tn i s'.heap ∧ (∀ b ∈ fp, H' b = none) ∧ W i m H' := fun {σ_9 s' H'} I' hl hk nxt => by
        obtain ⟨m', hm, w'⟩ := hNx H' nxt
        have pinn : ∀ b ∈ fp, ∀ o, s_7.heap.get? b = some o → s'.heap.get? b = some o ∧ H' b = none := fun b hb o e =>
          let zz := I'.pin (b, o) (List.mem_append_right _ (List.mem_append_right _ (mem_pinsAt hb e)))
          ⟨zz.1, zz.2.1⟩
        refine ⟨m', hm, i + 1, H', (I'.unpinned (pins := [])).weak hl hk, T.keep _ _ _ st_7 fun b hb o e => (pinn b hb o e).1, fun b hb => ?_, w'⟩
        obtain ⟨o, e, _⟩ := T.obj _ _ st_7 b hb
        exact (pinn b hb o e).2
      have hl_8 : (wipe σ (oww.map (·.2))).length = σ_8.length := by rw [← hw_8, wipe_length]
      have hk_8 : ∀ (j : Nat) v, (wipe σ (oww.map (·.2)))[j]? = some (some v) → σ_8[j]? = some (some v) := fun j v e => by
        rw [← hw_8] at e
        exact (wipe_some e).1
      have hk_9 : ∀ (j : Nat) v, (wipe σ (oww.map (·.2)))[j]? = some (some v) → (wipe σ_8 vs_1)[j]? = some (some v) := fun j v e => by
        rw [← hw_8] at e
        obtain ⟨e_1, e_2⟩ := wipe_some e
        rw [wipe_out fun z => e_2 (hv j z)]
        exact e_1
      cases b with
      | false =>
        simp only [Bool.false_eq_true, if_false] at q_9 ⊢
        exact fin I_9 hl_8 hk_8 q_9
      | true =>
        simp only [if_true] at q_9 ⊢
        refine thnF (pi_1.run _ s_9 σ_8 H_9 _ I_9 q_9) fun xv s_10 hx => thnF hx fun itv s_11 h_11 => ?_
        obtain ⟨it_1, fp_1, tn_1, J_1, H_11, e_1, I_11, T_1, st_11, f_11, W_1, ⟨m_1, w_1⟩, turn_1⟩ := h_11
        subst e_1
        -- the inner loop
        have stat_1 : ∀ {H' : Hp}, (∀ b ∈ fp_1, H' b = none) → ∀ b ∈ fp_1, FpOk (X.blk s_3 H_3 scp ce fp) ([] ++ pinsAt fp s_7.heap) H' b := fun hn b hb => ⟨hn b hb, (f_11 b hb).2⟩
        have loop_1 : codeAny (model X.prog X.w) X.A (.compLoop (.DictComp kx vx [⟨tg, iter, iffs, 0⟩, ⟨tg_1, iter_1, ifs_1, 0⟩] scp pos) 1 (.ref it_1) (.ref D) ce)
            (fun r s' => match r with
              | .ok _ => ∃ m, m < n ∧ ∃ i H', Inv (X.blk s_3 H_3 scp ce fp) [] (wipe σ (oww.map (·.2))) H' s' ∧ tn i s'.heap ∧ (∀ b ∈ fp, H' b = none) ∧ W i m H'
              | .error _ => False) s_11 := by
          refine compLoop2_inD (fun k s' => ∃ j H', Inv (X.blk s_3 H_3 scp ce fp) ([] ++ pinsAt fp s_7.heap) (wipe σ_8 vs_1) H' s' ∧ tn_1 j s'.heap ∧ (∀ b ∈ fp_1, H' b = none) ∧ W_1 j k H') ?_ m_1 ⟨0, H_11, I_11.weak (wipe_length _ _) (fun j v e => (wipe_some e).1), st_11, fun b hb => (f_11 b hb).1, w_1⟩
          rintro k s_12 ⟨j, H_12, I_12, st_12, n_12, w_12⟩
          rcases turn_1 j k H_12 w_12 with ⟨stop_1, nx_1⟩ | ⟨go_1, Nx_1, hNx_1, step_1⟩
          · refine thnF (T_1.done (X.blk s_3 H_3 scp ce fp) rfl rfl rfl hc j _ s_12 (wipe σ_8 vs_1) H_12 (fun _ _ => False) I_12 (stat_1 n_12) st_12 stop_1) fun r s_13 ⟨hr, I_13⟩ => ?_
            subst hr
            exact fin I_13 (hl_8.trans (wipe_length σ_8 vs_1).symm) hk_9 nx_1
          · refine thnF (T_1.item (X.blk s_3 H_3 scp ce fp) rfl rfl rfl hc j _ s_12 (wipe σ_8 vs_1) H_12 (fun _ _ => False) I_12 (stat_1 n_12) st_12 go_1) fun r s_13 ⟨u_1, hr, h_13⟩ => ?_
            subst hr
            refine thnF h_13 fun _ s_14 ⟨x_1, H_14, I_14, r_14, y_14, st_14, n_14⟩ => ?_
            have I_14' := I_14.pinned (stat_1 n_14) (T_1.obj _ _ st_14)
            refine thnF (pg_1.run _ s_14 (wipe σ_8 vs_1) H_14 x_1 u_1 _ I_14' r_14 (step_1 x_1 H_14 y_14)) fun _ s_15 ⟨σ_15, H_15, I_15, hw_15, q_15⟩ => ?_
            refine thnF (pt_1.run _ s_15 σ_15 H_15 _ I_15 q_15) fun b_1 s_16 ⟨H_16, I_16, q_16⟩ => ?_
            have fin_1 : ∀ {s' : Shared} {H' : Hp}, Inv (X.blk s_3 H_3 scp ce fp) (([] ++ pinsAt fp s_7.heap) ++ pinsAt fp_1 s_14.heap) σ_15 H' s' → Nx_1 H' → ∃ m, m < k ∧ ∃ j H', Inv (X.blk s_3 H_3 scp ce fp) ([] ++ pinsAt fp s_7.heap) (wipe σ_8 vs_1) H' s' ∧ tn_1 j s'.heap ∧ (∀ b ∈ fp_1, H' b = none) ∧ W_1 j m H' := fun {s' H'} I' nxt => by
              obtain ⟨m', hm, w'⟩ := hNx_1 H' nxt
              have pinn : ∀ b ∈ fp_1, ∀ o, s_14.heap.get? b = some o → s'.heap.get? b = some o ∧ H' b = none := fun b hb o e =>
                let zz := I'.pin (b, o) (List.mem_append_right _ (List.mem_append_right _ (mem_pinsAt hb e)))
                ⟨zz.1, zz.2.1⟩
              refine ⟨m', hm, j + 1, H', I'.unpinned.weak (by rw [← hw_15, wipe_length]) (fun j v e => by rw [← hw_15] at e; exact (wipe_some e).1), T_1.keep _ _ _ st_14 fun b hb o e => (pinn b hb o e).1, fun b hb => ?_, w'⟩
              obtain ⟨o, e, _⟩ := T_1.obj _ _ st_14 b hb
              exact (pinn b hb o e).2
            cases b_1 with
            | false =>
              simp only [Bool.false_eq_true, if_false] at q_16 ⊢
              exact fin_1 I_16 q_16
            | true =>
              simp only [if_true] at q_16 ⊢
              refine thnF (pk.run _ s_16 σ_15 H_16 _ I_16 q_16) fun z s_17 ⟨yk, H_17, I_17, r_17, q_17⟩ => ?_
              refine thnF (pe.run _ s_17 σ_15 H_17 _ I_17 q_17) fun z_2 s_18 ⟨yv, H_18, I_18, r_18, dp⟩ => ?_
              exact dp_dictSet (X := X.blk s_3 H_3 scp ce fp) hu I_18 dp r_17 r_18 fun H_19 s_19 I_19 nxt => fin_1 I_19 nxt
        exact compStart1_okD loop_1 (T_1.self X.A 0 _ _ _ st_11 loop_1)
  exact codeAny_compStart_dict loop (T.self X.A 0 _ _ _ st_4 loop)

end
section
variable {X : Cx} {P : Program} {w : World}
theorem pe_dc1K {kx vx tg iter : Expr} {iffs : List Expr} {scp : Scope} {own : List (Str × Nat)} {pos : Pos} {wi : TI} {g : TG} {tt : TT} {tk tv : TE} (qp : X.prog = P) (qw : X.w = w) (hu : X.A.units + 64 < cLine) (hc : X.calm = true) (hNd : X.N.Nodup) (hi : PI X tg iter wi) (ok : BlkOk X.N X.env.scope scp own)
    (hg : ∀ (s : Shared) (H : Hp) (C : Addr) (cq : List (Str × Addr)) (fp : List Addr), PG (X.blk s H scp (compEnvC scp cq C X.env) fp) tg g) (ht : ∀ (s : Shared) (H : Hp) (C : Addr) (cq : List (Str × Addr)) (fp : List Addr), PTs (X.blk s H scp (compEnvC scp cq C X.env) fp) iffs tt)
    (hk : ∀ (s : Shared) (H : Hp) (C : Addr) (cq : List (Str × Addr)) (fp : List Addr), PE (X.blk s H scp (compEnvC scp cq C X.env) fp) kx tk) (he : ∀ (s : Shared) (H : Hp) (C : Addr) (cq : List (Str × Addr)) (fp : List Addr), PE (X.blk s H scp (compEnvC scp cq C X.env) fp) vx tv)
    (hs : ∀ x, foldedSetIterable iter X.env x = pure x := by intro _; rfl) : PE X (.DictComp kx vx [⟨tg, iter, iffs, 0⟩] scp pos) (tDc1 P w wi g tt tk tv (own.map (·.2))) := by
  subst qp qw
  refine ⟨fun pins s σ H Q I h => ?_⟩
  rw [arm_eval_DictComp]
  refine dc1_core hu hc hNd I hi ok hg ht hk he hs h fun D C s' m H' I' q hn f => ⟨m, hn, fun h'' sb => ?_⟩
  obtain ⟨f0, f1, f2, f3, f4, f5⟩ := f
  exact ⟨.ref D, H', I'.turned (t' := s'.toks) (fun b o hb e => (sb.2 b hb).trans e) f0 f1 f3 f4 f5, rfl, q⟩
theorem pe_dc2K {kx vx tg iter tg1 iter1 : Expr} {iffs iffs1 : List Expr} {scp : Scope} {own : List (Str × Nat)} {vs1 : List Nat} {pos : Pos} {wi wi1 : TI} {g g1 : TG} {tt tt1 : TT} {tk tv : TE} (qp : X.prog = P) (qw : X.w = w) (hu : X.A.units + 64 < cLine) (hc : X.calm = true) (hNd : X.N.Nodup) (hi : PI X tg iter wi) (ok : BlkOk X.N X.env.scope scp own) (hv : ∀ i ∈ vs1, i ∈ own.map (·.2))
    (hg : ∀ (s : Shared) (H : Hp) (C : Addr) (cq : List (Str × Addr)) (fp : List Addr), PG (X.blk s H scp (compEnvC scp cq C X.env) fp) tg g) (ht : ∀ (s : Shared) (H : Hp) (C : Addr) (cq : List (Str × Addr)) (fp : List Addr), PTs (X.blk s H scp (compEnvC scp cq C X.env) fp) iffs tt)
    (hi1 : ∀ (s : Shared) (H : Hp) (C : Addr) (cq : List (Str × Addr)) (fp : List Addr), PI (X.blk s H scp (compEnvC scp cq C X.env) fp) tg1 iter1 wi1)
    (hg1 : ∀ (s : Shared) (H : Hp) (C : Addr) (cq : List (Str × Addr)) (fp : List Addr), PG (X.blk s H scp (compEnvC scp cq C X.env) fp) tg1 g1) (ht1 : ∀ (s : Shared) (H : Hp) (C : Addr) (cq : List (Str × Addr)) (fp : List Addr), PTs (X.blk s H scp (compEnvC scp cq C X.env) fp) iffs1 tt1)
    (hk : ∀ (s : Shared) (H : Hp) (C : Addr) (cq : List (Str × Addr)) (fp : List Addr), PE (X.blk s H scp (compEnvC scp cq C X.env) fp) kx tk) (he : ∀ (s : Shared) (H : Hp) (C : Addr) (cq : List (Str × Addr)) (fp : List Addr), PE (X.blk s H scp (compEnvC scp cq C X.env) fp) vx tv)
    (hs : ∀ x, foldedSetIterable iter X.env x = pure x := by intro _; rfl) (hs1 : ∀ env x, foldedSetIterable iter1 env x = pure x := by intro _ _; rfl) :
    PE X (.DictComp kx vx [⟨tg, iter, iffs, 0⟩, ⟨tg1, iter1, iffs1, 0⟩] scp pos) (tDc2 P w wi g tt wi1 g1 tt1 tk tv (own.map (·.2)) vs1) := by
  subst qp qw
  refine ⟨fun pins s σ H Q I h => ?_⟩
  rw [arm_eval_DictComp]
  refine dc2_core hu hc hNd I hi ok hv hg ht hk he hs hi1 hg1 ht1 hs1 h fun D C s' m H' I' q hn f => ⟨m, hn, fun h'' sb => ?_⟩
  obtain ⟨f0, f1, f2, f3, f4, f5⟩ := f
  exact ⟨.ref D, H', I'.turned (t' := s'.toks) (fun b o hb e => (sb.2 b hb).trans e) f0 f1 f3 f4 f5, rfl, q⟩
theorem sw_dict {kx vx : Expr} {gs : List Comprehension} {scp : Scope} {pos py : Pos} {y : Str} {l : Nat} {env : Env} (hk : env.scope.kind = .function) (hy : env.scope.names.lookup y = some .local) (hl : (py.line == pos.line) = true)
    (ha : (scp.names.any fun (n, k) => n == y && (k == .local || k == .cell)) = false) : swapsWith (.DictComp kx vx gs scp pos) (some (.Name y py)) l env = pure true := by
  have kindY : env.kindOf y = some .local := hy
  have blockY : env.blockKind = .function := by unfold Env.blockKind; rw [hk]; rfl
  unfold swapsWith; simp only [blockY, kindY, ha, Expr.pos, hl]; rfl
theorem ps_setDc1K {i : Nat} {y : Str} {py spos : Pos}  {kx vx tg iter : Expr} {iffs : List Expr} {scp : Scope} {own : List (Str × Nat)} {pos : Pos} {wi : TI} {g : TG} {tt : TT} {tk tv : TE} (qp : X.prog = P) (qw : X.w = w) (hu : X.A.units + 64 < cLine) (hc : X.calm = true) (hNd : X.N.Nodup) (hy : X.N[i]? = some y) (hyl : X.env.scope.names.lookup y = some .local) (hsw : swapsWith (.DictComp kx vx [⟨tg, iter, iffs, 0⟩] scp pos) (some (.Name y py)) spos.line X.env = pure true) (hi : PI X tg iter wi) (ok : BlkOk X.N X.env.scope scp own)
    (hg : ∀ (s : Shared) (H : Hp) (C : Addr) (cq : List (Str × Addr)) (fp : List Addr), PG (X.blk s H scp (compEnvC scp cq C X.env) fp) tg g) (ht : ∀ (s : Shared) (H : Hp) (C : Addr) (cq : List (Str × Addr)) (fp : List Addr), PTs (X.blk s H scp (compEnvC scp cq C X.env) fp) iffs tt)
    (hk : ∀ (s : Shared) (H : Hp) (C : Addr) (cq : List (Str × Addr)) (fp : List Addr), PE (X.blk s H scp (compEnvC scp cq C X.env) fp) kx tk) (he : ∀ (s : Shared) (H : Hp) (C : Addr) (cq : List (Str × Addr)) (fp : List Addr), PE (X.blk s H scp (compEnvC scp cq C X.env) fp) vx tv)
    (hs : ∀ x, foldedSetIterable iter X.env x = pure x := by intro _; rfl) : PS X (.Assign [.Name y py] (.DictComp kx vx [⟨tg, iter, iffs, 0⟩] scp pos) spos) (tAsg (tDc1 P w wi g tt tk tv (own.map (·.2))) (gName i)) := by
  subst qp qw
  refine ⟨fun pins s σ H D I h => ?_⟩
  rw [exec_Assign_Name_used _ _ _ _ hsw]
  refine wpAny_bind (wpAny_standAt (wpAny_bind ?_))
  show wpAny _ X.A (do let _ ← comprehension (.DictComp kx vx [⟨tg, iter, iffs, 0⟩] scp pos) scp X.env (firstIterPos [⟨tg, iter, iffs, 0⟩] pos) newDict false (eval iter X.env) (some (assign (.Name y py) X.env))) _ _ s
  have h : tDc1 X.prog X.w wi g tt tk tv (own.map (·.2)) σ H (fun x H_1 => gName i x σ H_1 D.nx) := h
  refine wpAny_bind (thn (dc1_core hu (Qf := fun _ s' => SP X pins D .next s') hc hNd I hi ok hg ht hk he hs  h fun L C s' m H' I' q hn f => ?_) fun _ s' hq => wpAny_pure (wpAny_pure hq))
  show wpAny _ _ (assign (.Name y py) X.env (.ref L)) _ _ _
  refine wpAny_assign_Name (store_ok2 (v := V.ref L) I' hNd hy (.inl hyl) rfl (fun s_2 I_2 ⟨a, sb, ha⟩ => ?_) (.inr hyl))
  obtain ⟨f_0, f_1, f_2, f_3, f_4, f_5⟩ := f
  have haC : C ≠ a := by
    rcases ha with z | z
    · rw [z]; exact f_1
    · exact fun e => f_4 y a z e.symm
  refine ⟨m, hn.sameBut sb haC, fun h_3 sb_3 => ?_⟩
  exact ⟨_, H', I_2.turned (t' := s_2.toks) (fun b o hb e => (sb_3.2 b hb).trans e) f_0 f_1 f_3 f_4 f_5, q⟩
theorem ps_setDc2K {i : Nat} {y : Str} {py spos : Pos}  {kx vx tg iter tg1 iter1 : Expr} {iffs iffs1 : List Expr} {scp : Scope} {own : List (Str × Nat)} {vs1 : List Nat} {pos : Pos} {wi wi1 : TI} {g g1 : TG} {tt tt1 : TT} {tk tv : TE} (qp : X.prog = P) (qw : X.w = w) (hu : X.A.units + 64 < cLine) (hc : X.calm = true) (hNd : X.N.Nodup) (hy : X.N[i]? = some y) (hyl : X.env.scope.names.lookup y = some .local) (hsw : swapsWith (.DictComp kx vx [⟨tg, iter, iffs, 0⟩, ⟨tg1, iter1, iffs1, 0⟩] scp pos) (some (.Name y py)) spos.line X.env = pure true) (hi : PI X tg iter wi) (ok : BlkOk X.N X.env.scope scp own) (hv : ∀ i ∈ vs1, i ∈ own.map (·.2))
    (hg : ∀ (s : Shared) (H : Hp) (C : Addr) (cq : List (Str × Addr)) (fp : List Addr), PG (X.blk s H scp (compEnvC scp cq C X.env) fp) tg g) (ht : ∀ (s : Shared) (H : Hp) (C : Addr) (cq : List (Str × Addr)) (fp : List Addr), PTs (X.blk s H scp (compEnvC scp cq C X.env) fp) iffs tt)
    (hi1 : ∀ (s : Shared) (H : Hp) (C : Addr) (cq : List (Str × Addr)) (fp : List Addr), PI (X.blk s H scp (compEnvC scp cq C X.env) fp) tg1 iter1 wi1)
    (hg1 : ∀ (s : Shared) (H : Hp) (C : Addr) (cq : List (Str × Addr)) (fp : List Addr), PG (X.blk s H scp (compEnvC scp cq C X.env) fp) tg1 g1) (ht1 : ∀ (s : Shared) (H : Hp) (C : Addr) (cq : List (Str × Addr)) (fp : List Addr), PTs (X.blk s H scp (compEnvC scp cq C X.env) fp) iffs1 tt1)
    (hk : ∀ (s : Shared) (H : Hp) (C : Addr) (cq : List (Str × Addr)) (fp : List Addr), PE (X.blk s H scp (compEnvC scp cq C X.env) fp) kx tk) (he : ∀ (s : Shared) (H : Hp) (C : Addr) (cq : List (Str × Addr)) (fp : List Addr), PE (X.blk s H scp (compEnvC scp cq C X.env) fp) vx tv)
    (hs : ∀ x, foldedSetIterable iter X.env x = pure x := by intro _; rfl) (hs1 : ∀ env x, foldedSetIterable iter1 env x = pure x := by intro _ _; rfl) :
    PS X (.Assign [.Name y py] (.DictComp kx vx [⟨tg, iter, iffs, 0⟩, ⟨tg1, iter1, iffs1, 0⟩] scp pos) spos) (tAsg (tDc2 P w wi g tt wi1 g1 tt1 tk tv (own.map (·.2)) vs1) (gName i)) := by
  subst qp qw
  refine ⟨fun pins s σ H D I h => ?_⟩
  rw [exec_Assign_Name_used _ _ _ _ hsw]
  refine wpAny_bind (wpAny_standAt (wpAny_bind ?_))
  show wpAny _ X.A (do let _ ← comprehension (.DictComp kx vx [⟨tg, iter, iffs, 0⟩, ⟨tg1, iter1, iffs1, 0⟩] scp pos) scp X.env (firstIterPos [⟨tg, iter, iffs, 0⟩, ⟨tg1, iter1, iffs1, 0⟩] pos) newDict false (eval iter X.env) (some (assign (.Name y py) X.env))) _ _ s
  have h : tDc2 X.prog X.w wi g tt wi1 g1 tt1 tk tv (own.map (·.2)) vs1 σ H (fun x H_1 => gName i x σ H_1 D.nx) := h
  refine wpAny_bind (thn (dc2_core hu (Qf := fun _ s' => SP X pins D .next s') hc hNd I hi ok hv hg ht hk he hs hi1 hg1 ht1 hs1 h fun L C s' m H' I' q hn f => ?_) fun _ s' hq => wpAny_pure (wpAny_pure hq))
  show wpAny _ _ (assign (.Name y py) X.env (.ref L)) _ _ _
  refine wpAny_assign_Name (store_ok2 (v := V.ref L) I' hNd hy (.inl hyl) rfl (fun s_2 I_2 ⟨a, sb, ha⟩ => ?_) (.inr hyl))
  obtain ⟨f_0, f_1, f_2, f_3, f_4, f_5⟩ := f
  have haC : C ≠ a := by
    rcases ha with z | z
    · rw [z]; exact f_1
    · exact fun e => f_4 y a z e.symm
  refine ⟨m, hn.sameBut sb haC, fun h_3 sb_3 => ?_⟩
  exact ⟨_, H', I_2.turned (t' := s_2.toks) (fun b o hb e => (sb_3.2 b hb).trans e) f_0 f_1 f_3 f_4 f_5, q⟩
end
/-! ### what has been laid, one after the other -/
def puts (kvs : List (D × V)) (l : List (D × V)) : List (D × V) := l.foldl (fun k e => putK k e.1 e.2) kvs
theorem puts_length : ∀ (l kvs : List (D × V)), (puts kvs l).length ≤ kvs.length + l.length
  | [], kvs => by simp [puts]
  | e :: l, kvs => by
    have h1 := puts_length l (putK kvs e.1 e.2)
    have h2 := length_putK kvs e.1 e.2
    show (puts (putK kvs e.1 e.2) l).length ≤ _
    rw [List.length_cons]
    omega
theorem puts_app (kvs l r : List (D × V)) : puts kvs (l ++ r) = puts (puts kvs l) r := by unfold puts; rw [List.foldl_append]
/-- the inner loop -/
def InnerD2 (P : Program) (w : World) (g1 : TG) (tt1 : TT) (tk tv : TE) (vs1 : List Nat) (D : Addr) (Nx : Hp → Prop) (σ2 : L2.St) (J1 : It) (H4 : Hp) : Prop := ∃ W1 : Nat → Nat → Hp → Prop, (∃ m, W1 0 m H4) ∧ ∀ j k H, W1 j k H →
  (J1.stop j H ∧ Nx H) ∨ (J1.go j H ∧ ∃ Nx1 : Hp → Prop, (∀ H', Nx1 H' → ∃ k', k' < k ∧ W1 (j + 1) k' H') ∧ ∀ x H', J1.yld j H x H' → g1 x (wipe σ2 vs1) H' fun σ3 H5 => wipe σ3 vs1 = wipe σ2 vs1 ∧ tt1 σ3 H5 fun b H6 =>
    if b = true then tk σ3 H6 fun y H7 => tv σ3 H7 fun z H8 => DP P w H8 D y z Nx1 else Nx1 H6)
def LoopD2 (P : Program) (w : World) (J : It) (g : TG) (tt : TT) (wi1 : TI) (g1 : TG) (tt1 : TT) (tk tv : TE) (vs vs1 : List Nat) (σ : L2.St) (H1 : Hp) (D : Addr) (Q : VK) : Prop := ∃ W : Nat → Nat → Hp → Prop, (∃ m, W 0 m (L2.upd H1 D (raw D newD))) ∧ ∀ i m H, W i m H →
  (J.stop i H ∧ Q (.ref D) H) ∨ (J.go i H ∧ ∃ Nx : Hp → Prop, (∀ H', Nx H' → ∃ m', m' < m ∧ W (i + 1) m' H') ∧ ∀ x H', J.yld i H x H' → g x (wipe σ vs) H' fun σ2 H2 => wipe σ2 vs = wipe σ vs ∧ tt σ2 H2 fun b H3 =>
    if b = true then wi1 σ2 H3 fun J1 H4 => InnerD2 P w g1 tt1 tk tv vs1 D Nx σ2 J1 H4 else Nx H3)
def LoopD1 (P : Program) (w : World) (J : It) (g : TG) (tt : TT) (tk tv : TE) (vs : List Nat) (σ : L2.St) (H1 : Hp) (D : Addr) (Q : VK) : Prop := ∃ W : Nat → Nat → Hp → Prop, (∃ m, W 0 m (L2.upd H1 D (raw D newD))) ∧ ∀ i m H, W i m H →
  (J.stop i H ∧ Q (.ref D) H) ∨ (J.go i H ∧ ∃ Nx : Hp → Prop, (∀ H', Nx H' → ∃ m', m' < m ∧ W (i + 1) m' H') ∧ ∀ x H', J.yld i H x H' → g x (wipe σ vs) H' fun σ2 H2 => wipe σ2 vs = wipe σ vs ∧ tt σ2 H2 fun b H3 =>
    if b = true then tk σ2 H3 fun y H4 => tv σ2 H4 fun z H5 => DP P w H5 D y z Nx else Nx H3)
theorem dc1_eq {P : Program} {w : World} {wi : TI} {g : TG} {tt : TT} {tk tv : TE} {vs : List Nat} {σ : L2.St} {H : Hp} {Q : VK} : tDc1 P w wi g tt tk tv vs σ H Q = wi σ H fun J H1 => ∀ D, H1 D = none → (D == sysModules) = false → LoopD1 P w J g tt tk tv vs σ H1 D Q := rfl
theorem dc2_eq {P : Program} {w : World} {wi : TI} {g : TG} {tt : TT} {wi1 : TI} {g1 : TG} {tt1 : TT} {tk tv : TE} {vs vs1 : List Nat} {σ : L2.St} {H : Hp} {Q : VK} : tDc2 P w wi g tt wi1 g1 tt1 tk tv vs vs1 σ H Q = wi σ H fun J H1 => ∀ D, H1 D = none → (D == sysModules) = false → LoopD2 P w J g tt wi1 g1 tt1 tk tv vs vs1 σ H1 D Q := rfl
theorem nd_put {P : Program} {w : World} {H H' : Hp} {a : Addr} {kvs : List (D × V)} {o : Obj} (h : ND P w H a kvs) (ho : IsND P w H o kvs) (hs : (a == sysModules) = false) : ND P w (L2.upd H a (raw a o)) a kvs := by
  obtain ⟨_, o0, h0, _⟩ := h
  exact ⟨hs, o, upd_same, ho.tp (tups_upd h0 (fun _ z => nomatch z))⟩
theorem nd_raw {P : Program} {w : World} {H H' : Hp} {a : Addr} {kvs kvs' : List (D × V)} {o : Obj} (h : ND P w H a kvs) (ho : IsND P w H o kvs') : ND P w (L2.upd H a (raw a o)) a kvs' := by
  obtain ⟨hs, o0, h0, _⟩ := h
  exact ⟨hs, o, upd_same, ho.tp (tups_upd h0 (fun _ z => nomatch z))⟩
theorem dc1_data {P : Program} {w : World} {J : It} {n : Nat} {G : Hp → Prop} {Y : Nat → Hp → V → Hp → Prop} (wk : Walk J n G Y) {g : TG} {tt : TT} {tk tv : TE} {vs : List Nat} {σ : L2.St} {H1 : Hp} {D' : Addr} {Q : VK} (hD : H1 D' = none) (hsy : (D' == sysModules) = false) (hn : n ≤ 100000) (F : Nat → Option (D × V)) (hG : ∀ H', Le H1 H' → G H')
    (hs : ∀ i x H' H'', i < n → Le H1 H' → (∃ o, H' D' = some (raw D' o)) → Y i H' x H'' → ∀ (Put : V → V → Hp → Prop) (Nk : Hp → Prop), (∀ y z k b H4, Le H' H4 → F i = some (k, z) → y = .ref b → At H4 k y → k.depth ≤ 8 → Put y z H4) → (∀ H3, Le H' H3 → F i = none → Nk H3) →
      g x (wipe σ vs) H'' fun σ2 H2 => wipe σ2 vs = wipe σ vs ∧ tt σ2 H2 fun b H3 => if b = true then tk σ2 H3 fun y H4 => tv σ2 H4 fun z H5 => Put y z H5 else Nk H3)
    (hd : ∀ H', Le H1 H' → ND P w H' D' (puts [] ((List.range n).filterMap F)) → Q (.ref D') H') : LoopD1 P w J g tt tk tv vs σ H1 D' Q := by
  refine ⟨fun i m H => m = n - i ∧ i ≤ n ∧ Le H1 H ∧ ND P w H D' (puts [] ((List.range i).filterMap F)), ⟨n, by simp, Nat.zero_le _, .new hD, hsy, _, upd_same, newD_ND P w _⟩, ?_⟩
  rintro i m H ⟨rfl, hi, l, hN⟩
  by_cases hlt : i < n
  · refine .inr ⟨wk.goes i H hlt (hG H l), fun H' => Le H1 H' ∧ ND P w H' D' (puts [] ((List.range (i + 1)).filterMap F)), fun H' p' => ⟨n - (i + 1), by omega, rfl, hlt, p'⟩, fun x H' y => ?_⟩
    refine hs i x H H' hlt l (by obtain ⟨_, o, ho, _⟩ := hN; exact ⟨o, ho⟩) (wk.yields i H x H' hlt (hG H l) y) _ _ (fun y z k b H4 l4 hF ey hk hdp => ?_) (fun H3 l3 hF => ?_)
    · subst ey
      have hz : (puts [] ((List.range i).filterMap F)).length < sizeLine := by
        have h1 := puts_length ((List.range i).filterMap F) []
        have h2 := List.length_filterMap_le F (List.range i)
        rw [List.length_range] at h2
        rw [List.length_nil] at h1
        rw [sizeLine_eq]
        omega
      refine .inr ⟨_, k, b, hN.le l4, rfl, hk, hdp, hz, fun o ho => ⟨(l.trans l4).mut hD, ?_⟩⟩
      rw [range_filterMap, hF, puts_app]
      exact nd_raw (H' := H4) (hN.le l4) ho
    · refine ⟨l.trans l3, ?_⟩
      rw [range_filterMap, hF]
      simpa using hN.le l3
  · obtain rfl : i = n := by omega
    exact .inl ⟨wk.stops H (hG H l), hd H l hN⟩
theorem dc2_data {P : Program} {w : World} {J : It} {n : Nat} {G : Hp → Prop} {Y : Nat → Hp → V → Hp → Prop} (wk : Walk J n G Y) {g : TG} {tt : TT} {wi1 : TI} {g1 : TG} {tt1 : TT} {tk tv : TE} {vs vs1 : List Nat} {σ : L2.St} {H1 : Hp} {D' : Addr} {Q : VK} (hD : H1 D' = none) (hsy : (D' == sysModules) = false) (F : Nat → List (D × V))
    (hn : (((List.range n).map F).flatten).length ≤ 100000) (hG : ∀ H', Le H1 H' → G H')
    (hs : ∀ i x H' H'', i < n → Le H1 H' → (∃ o, H' D' = some (raw D' o)) → Y i H' x H'' → ∀ (In : L2.St → It → Hp → Prop) (Nk : Hp → Prop),
      (∀ (σ2 : L2.St) (J1 : It) (H4 : Hp) (n1 : Nat) (G1 : Hp → Prop) (Y1 : Nat → Hp → V → Hp → Prop) (F1 : Nat → Option (D × V)), Walk J1 n1 G1 Y1 → Le H' H4 → (List.range n1).filterMap F1 = F i → (∀ H5, Le H1 H5 → Le (del H4 D') H5 → G1 H5) →
        (∀ j y H5 H6, j < n1 → Le H1 H5 → Le (del H4 D') H5 → Y1 j H5 y H6 → ∀ (Put : V → V → Hp → Prop) (Nk1 : Hp → Prop), (∀ y z k b H7, Le H5 H7 → F1 j = some (k, z) → y = .ref b → At H7 k y → k.depth ≤ 8 → Put y z H7) → (∀ H7, Le H5 H7 → F1 j = none → Nk1 H7) →
          g1 y (wipe σ2 vs1) H6 fun σ3 H7 => wipe σ3 vs1 = wipe σ2 vs1 ∧ tt1 σ3 H7 fun b H8 => if b = true then tk σ3 H8 fun y H9 => tv σ3 H9 fun z H10 => Put y z H10 else Nk1 H8) → In σ2 J1 H4) →
      (∀ H4, Le H' H4 → F i = [] → Nk H4) →
      g x (wipe σ vs) H'' fun σ2 H2 => wipe σ2 vs = wipe σ vs ∧ tt σ2 H2 fun b H3 => if b = true then wi1 σ2 H3 fun J1 H4 => In σ2 J1 H4 else Nk H3)
    (hd : ∀ H', Le H1 H' → ND P w H' D' (puts [] (((List.range n).map F).flatten)) → Q (.ref D') H') : LoopD2 P w J g tt wi1 g1 tt1 tk tv vs vs1 σ H1 D' Q := by
  let Pr : List (D × V) → Hp → Prop := fun ds H' => Le H1 H' ∧ ND P w H' D' (puts [] ds)
  refine ⟨fun i m H => m = n - i ∧ i ≤ n ∧ Pr (((List.range i).map F).flatten) H, ⟨n, by simp, Nat.zero_le _, .new hD, hsy, _, upd_same, newD_ND P w _⟩, ?_⟩
  rintro i m H ⟨rfl, hi, l, hN⟩
  by_cases hlt : i < n
  · refine .inr ⟨wk.goes i H hlt (hG H l), Pr (((List.range (i + 1)).map F).flatten), fun H' p' => ⟨n - (i + 1), by omega, rfl, hlt, p'⟩, fun x H' y => ?_⟩
    have eF : ((List.range (i + 1)).map F).flatten = ((List.range i).map F).flatten ++ F i := by
      rw [List.range_succ, List.map_append, List.flatten_append]
      simp
    refine hs i x H H' hlt l (by obtain ⟨_, o, ho, _⟩ := hN; exact ⟨o, ho⟩) (wk.yields i H x H' hlt (hG H l) y) _ _ (fun σ2 J1 H4 n1 G1 Y1 F1 wk1 l4 hF hG1 hs1 => ?_) (fun H4 l4 hF => ?_)
    · refine ⟨fun j k H5 => k = n1 - j ∧ j ≤ n1 ∧ Le (del H4 D') H5 ∧ Pr (((List.range i).map F).flatten ++ (List.range j).filterMap F1) H5, ⟨n1, by simp, Nat.zero_le _, del_le _ _, l.trans l4, ?_⟩, ?_⟩
      · simpa using hN.le l4
      rintro j k H5 ⟨rfl, hj, l5, l5', hN5⟩
      by_cases hjl : j < n1
      · refine .inr ⟨wk1.goes j H5 hjl (hG1 H5 l5' l5), fun H6 => Le (del H4 D') H6 ∧ Pr (((List.range i).map F).flatten ++ (List.range (j + 1)).filterMap F1) H6, fun H6 p6 => ⟨n1 - (j + 1), by omega, rfl, hjl, p6⟩, fun z H6 yz => ?_⟩
        refine hs1 j z H5 H6 hjl l5' l5 (wk1.yields j H5 z H6 hjl (hG1 H5 l5' l5) yz) _ _ (fun y v k b H7 l7 hFj ey hk hdp => ?_) (fun H7 l7 hFj => ?_)
        · subst ey
          have hz : (puts [] (((List.range i).map F).flatten ++ (List.range j).filterMap F1)).length < sizeLine := by
            have h1 := puts_length (((List.range i).map F).flatten ++ (List.range j).filterMap F1) []
            have a1 : ((List.range j).filterMap F1).length ≤ (F i).length := by
              rw [← hF]
              obtain ⟨q, rfl⟩ : ∃ q, n1 = j + q := ⟨n1 - j, by omega⟩
              rw [List.range_add, List.filterMap_append, List.length_append]
              omega
            have a2 := flat_small (F := F) (n := n) (i := i + 1) hlt
            rw [eF, List.length_append] at a2
            rw [List.length_append, List.length_nil] at h1
            rw [sizeLine_eq]
            omega
          refine .inr ⟨_, k, b, hN5.le l7, rfl, hk, hdp, hz, fun o ho => ⟨(l5.trans l7).mut del_self, (l5'.trans l7).mut hD, ?_⟩⟩
          rw [range_filterMap, hFj, ← List.append_assoc, puts_app]
          exact nd_raw (H' := H7) (hN5.le l7) ho
        · refine ⟨l5.trans l7, l5'.trans l7, ?_⟩
          rw [range_filterMap, hFj]
          simpa using hN5.le l7
      · obtain rfl : j = n1 := by omega
        refine .inl ⟨wk1.stops H5 (hG1 H5 l5' l5), l5', ?_⟩
        rw [eF, ← hF]
        exact hN5
    · refine ⟨l.trans l4, ?_⟩
      rw [eF, hF, List.append_nil]
      exact hN.le l4
  · obtain rfl : i = n := by omega
    exact .inl ⟨wk.stops H (hG H l), hd H l hN⟩
end Lt

/-! Lt, part K: isinstance of a dict told by its object; such a dict cleared; data within lists. -/
namespace Lt
open PySem PySem.Spec PyProof.Rows L2

section
variable {X : Cx} {K : PySem.W.Frag} {P : Program} {w : World}
/-- isinstance(x, c), x a dict told by its object -/
def rIsiN (K : PySem.W.Frag) : List V → Hp → VK → Prop := fun xs H Q => ∃ (a : Addr) (c : V) (u : Value) (b : Bool), xs = [.ref a, c] ∧ ClsV c u ∧ IsDict H a ∧ PySem.W.kitOne K (.type "dict") u = some b ∧ Q (.bl b) H
theorem call_isiN : CallR X (.builtin "isinstance") (rIsiN X.K) := by
  intro pins s σ H xs us Q I r h
  obtain ⟨a, c, u, b, rfl, k, dd, e, q⟩ := h
  obtain ⟨u1, u2, rfl, r1, r2⟩ := vals2 r
  have e2 := k.eq r2
  subst e2
  cases (show u1 = Value.ref a from r1)
  obtain ⟨t1, _⟩ := isDict_at I dd
  obtain ⟨o, ho, hc⟩ := t1
  exact PySem.W.kia_one PySem.W.kitx_dict I.kIn ⟨o, ho, hc⟩ e (fun z => nomatch z) fun tk => ⟨.bl b, H, I.tok tk, rfl, q⟩
theorem isiNK (e : X.K = K) : CallR X (.builtin "isinstance") (rIsiN K) := e ▸ call_isiN
/-- d.clear() -/
def tNClear (P : Program) (w : World) (td : TE) : TE := fun σ H Q => td σ H fun x H1 => ∃ a kvs, x = .ref a ∧ ND P w H1 a kvs ∧ ∀ o, IsND P w H1 o [] → Q .non (L2.upd H1 a (raw a o))
theorem pe_nclear {o : Expr} {td : TE} {apos cpos : Pos} (qp : X.prog = P) (qw : X.w = w) (ho : PE X o td) (hbase : attributeBase o "clear" X.env (eval o X.env) = eval o X.env := by rfl) (hline : (apos.endLine == cpos.line) = true := by rfl) :
    PE X (.Call (.Attribute o "clear" apos) [] [] cpos) (tNClear P w td) := by
  subst qp qw
  refine ⟨fun pins s σ H Q I h => ?_⟩
  refine wpAny_Call_method0_late hbase hline (thn (ho.run pins s σ H _ I h) fun v s1 ⟨x, H1, I1, r1, a, kvs, ex, hN, q⟩ => ?_)
  subst ex
  cases (show v = Value.ref a from r1)
  obtain ⟨t1, t2, _⟩ := isDict_at I1 hN.isDict
  refine ⟨"dict", "dict.clear", PySem.F.plainAttrs_dict, PySem.F.slot_dict_clear, PySem.F.type_dict_clear, t1, t2, ?_⟩
  refine Calls.callWith_builtin rfl (PySem.evalArgs_none ?_)
  obtain ⟨hs, o0, h0, z, es, ep, xs, c1, c2, c3, c4, rr⟩ := id hN
  have hr : s1.heap.DictRaw a es ep := ⟨o0, raw_get I1.hok h0, c1, c2⟩
  have hsz : es.size ≤ sizeLine := by rw [size_of_entries c3, ← rr.length]; exact z
  refine call_meetsIn PySem.F.slot_dict_clear hr.typeIs PySem.F.entry_dict_clear (PySem.F.args_dict_clear_1 _) (meets_dict_clear_raw a) ⟨es, ep, hr, hsz, fun h' hr' hsb => ?_⟩
  obtain ⟨o1, g1, g2, g3⟩ := hr'
  exact ⟨.non, _, Inv.rawset (t' := s1.toks) I1 h0 hsb g1, rfl, q o1 ⟨Nat.zero_le _, #[], _, [], g2, g3, rfl, List.nodup_nil, .nil⟩⟩
theorem inDK (e : X.K = K) (hu : X.A.units + 65 < cLine) : OpR X (compareOp .In) (rInD K) := e ▸ op_inD hu
theorem notInDK (e : X.K = K) (hu : X.A.units + 65 < cLine) : OpR X (compareOp .NotIn) (rNotInD K) := e ▸ op_notInD hu
theorem eqLK' (e : X.K = K) (hu : X.A.units + 64 < cLine) : OpR X (compareOp .Eq) (rEqL K) := e ▸ op_eqL hu
theorem pi_enumK {e : Expr} {ta : TA} {p pos tpos : Pos} {elts : List Expr} {kk : Nat} (q : X.K = K) (hg : Gl X "enumerate") (hm : X.mg "enumerate" = none) (ha : PA X [e] ta) (hs : starEach [e] X.env = [(false, eval e X.env)] := by rfl) :
    PI X (.Tuple elts kk tpos) (.Call (.Name "enumerate" p) [e] [] pos) (iEnum K ta) := q ▸ pi_enum hg hm ha hs
end
end Lt

/-! Lt, part L: own exceptions: their classes' facts, calls that may raise, isinstance of one that is caught. -/
namespace Lt
open PySem PySem.Spec PyProof.Rows L2

/-- what the written part tells of an exception class x at C -/
structure ExX (K : PySem.W.Frag) (mg : Str → Option Value) (x : Str) (C : Addr) : Prop where
  g : mg x = some (.ref C)
  q : PySem.W.excIn K C [.type "ValueError", .type "Exception", .type "BaseException", .type "object"] "ValueError.__new__" = true
  k : PySem.W.keepIn K (.ref C) = true
  b : PySem.W.subIn K (.ref C) (.type "BaseException") = some true
  t : PySem.W.typeIn K (.ref C) = some (.type "type")
section
variable {X : Cx} {k : Nat} {x : Str} {ps : List Str} {sp : Sp} {f : Addr} {fd : FuncData} {p pos : Pos} {e : Expr} {es : List Expr} {t : TA} {W : WX}
/-- a call of an own def that may raise -/
theorem pe_ownS (c : Cal X.prog X.w X.K X.mg X.base (L2.CX X.prog X.w) k x ps sp f fd) (hr : Room k X.A) (hg : Gl X x) (tk : Takes X W) (ha : PA X (e :: es) t) (hdb : (x == ("__debug__" : Str)) = false := by decide)
    (he : starEach (e :: es) X.env = (false, eval e X.env) :: starEach es X.env := by rfl) (hpl : (backTo pos (starEach es X.env)).any (·.1) = false := by rfl) :
    PE X (.Call (.Name x p) (e :: es) [] pos) (tCallS sp (WE W) t) := pe_callS c.ok hr hg c.gl c.kp c.bd (fun σ => passAt tk σ) ha hdb he hpl
end
/-- isinstance(e, c), isinstance(e, (c1, ..)): e is caught -/
def rIsX (K : PySem.W.Frag) (cls : Value) (d : Option Addr) (a : Addr) : List V → Hp → VK → Prop := fun xs H Q => ∃ (D : Addr), cls = .ref D ∧ d = none ∧ ExcC K D ∧
  ((∃ (c : V) (cv : Value) (b : Bool), xs = [.ref a, c] ∧ ClsV c cv ∧ PySem.W.kitOne K (.ref D) cv = some b ∧ Q (.bl b) H) ∨
   ∃ (tp : Addr) (cs : List V) (us : List Value) (b : Bool), xs = [.ref a, .ref tp] ∧ H tp = some (.tup cs) ∧ Paired ClsV cs us ∧ PySem.W.kitAny K (.ref D) us = some b ∧ Q (.bl b) H)
theorem call_isX {X : Cx} {a : Addr} {cls : Value} {d : Option Addr} {oe : Obj} {pn : List (Addr × Obj)} (hz : Zc cls d oe) (hf : ∃ vs, oe.data = .fields vs) : CallR (X.suite a ((a, oe) :: pn)) (.builtin "isinstance") (rIsX X.K cls d a) := by
  intro pins s σ H xs us Q I r h
  obtain ⟨D, rfl, rfl, C, h⟩ := h
  obtain ⟨hget, _⟩ := I.pin (a, oe) (List.mem_append.mpr (.inl List.mem_cons_self))
  obtain ⟨vs, hv⟩ := hf
  have J : PySem.W.InstAt s.heap a oe D none := by
    obtain ⟨oc, od, oda, osl⟩ := oe
    obtain ⟨h1, h2⟩ := hz
    dsimp only at h1 h2 hv
    subst h1 h2 hv
    exact ⟨hget, rfl, rfl, trivial⟩
  rcases h with ⟨c, cv, b, rfl, kc, e, q⟩ | ⟨tp, cs, ws, b, rfl, hT, kc, e, q⟩
  · obtain ⟨u1, u2, rfl, r1, r2⟩ := vals2 r
    have e2 := kc.eq r2
    subst e2
    cases (show u1 = Value.ref a from r1)
    exact PySem.W.kia_one (PySem.W.handS_kitx_exc C.hg C.hk C.hs C.hd C.ha C.hn C.ht C.hm) I.kIn J e (fun z => nomatch z) fun tk => ⟨.bl b, H, I.kept (t' := tk) fun _ _ z => z, rfl, q⟩
  · obtain ⟨u1, u2, rfl, r1, r2⟩ := vals2 r
    cases (show u1 = Value.ref a from r1)
    cases (show u2 = Value.ref tp from r2)
    obtain ⟨_, its, rv, o, h1, h2, n, h3⟩ := (show ObjOk X.prog X.w H s.heap tp (.tup cs) from I.hok tp _ hT)
    have e3 := ClsV.all kc rv
    subst e3
    obtain ⟨oc, od, dt, sl⟩ := o
    simp only at h2 h3
    subst h2 h3
    exact PySem.W.kia_tup (PySem.W.handS_kitx_exc C.hg C.hk C.hs C.hd C.ha C.hn C.ht C.hm) I.kIn J h1 e (fun z => nomatch z) fun tk => ⟨.bl b, H, I.kept (t' := tk) fun _ _ z => z, rfl, q⟩
/-! ### an instance whose __init__ may raise -/
def tMakeS (C : Addr) (sp : Sp) (Ew : L2.St → XK) (t : TA) : TE := fun σ H Q => t σ H fun vs H1 => ∀ x dx, H1 x = none → H1 dx = none → dx ≠ x →
  sp (.ref x :: vs) (L2.upd (L2.upd H1 dx (.own x)) x (.ins C dx [])) (fun v H2 => v = .non ∧ Q (.ref x) H2) (Ew σ)
section
variable {X : Cx} {C f : Addr} {k : Nat} {x : Str} {ps : List Str} {sp : Sp} {fd : FuncData} {p pos : Pos} {e : Expr} {es : List Expr} {t : TA} {W : WX}
theorem make_run {pins : List (Addr × Obj)} {σ : L2.St} {H : Hp} {s : Shared} {Q : VK} {us : List Value} {vs : List V} {Ew : XK} (M : Mk X.K C f) (F : FnOk X.prog X.w X.K X.mg X.base (L2.CX X.prog X.w) k f fd ps sp) (hr : Room (k + 1) X.A) (hb : Binds X.K fd ps [])
    (hx : PassesAt (L2.CX X.prog X.w) X σ Ew) (I : Inv X pins σ H s) (r : Vals vs us) (h : ∀ x dx, H x = none → H dx = none → dx ≠ x → sp (.ref x :: vs) (L2.upd (L2.upd H dx (.own x)) x (.ins C dx [])) (fun v H2 => v = .non ∧ Q (.ref x) H2) Ew) :
    wpAny (model X.prog X.w) X.A (call (.ref C) us) (EP X pins σ Q) X.xe s := by
  have asked := h (s.heap.objs.size + 1) s.heap.objs.size (I.hok.fresh (Nat.le_succ _)) (I.hok.fresh (Nat.le_refl _)) (Nat.ne_of_lt (Nat.lt_succ_self _))
  have Im := Inv.made (C := C) I
  have rm : Vals (V.ref (s.heap.objs.size + 1) :: vs) (Value.ref (s.heap.objs.size + 1) :: us) := .cons rfl r
  have hl : (Value.ref (s.heap.objs.size + 1) :: us ++ []).length = ps.length := by
    have el := rm.length
    rw [F.len _ _ _ _ asked] at el
    rw [List.append_nil]
    exact el.symm
  have hb2 := hb _ (Value.ref (s.heap.objs.size + 1) :: us) Im.kIn hl
  rw [List.append_nil] at hb2
  refine wpAny_call (make_map (f := f) I.kIn M.makes M.init (beq_iff_eq.mp M.fn) (codeAny_mono (F.run _ X.stack _ _ ⟨Value.ref (s.heap.objs.size + 1) :: us, []⟩ (Value.ref (s.heap.objs.size + 1) :: us) _ _ Ew (hr.make C us []) (Im.env0.make C us []) hb2 rm asked) fun res s' got => ?_))
  cases res with
  | error er => exact hx pins _ _ er s' Im got
  | ok fl =>
    cases fl with
    | ret u =>
      obtain ⟨v, H', I3, rv, ev, q3⟩ := Im.after got
      subst ev
      exact ⟨rv, V.ref (s.heap.objs.size + 1), H', I3, rfl, q3⟩
    | next => exact got.elim
    | brk => exact got.elim
    | cont => exact got.elim
theorem pe_makeS (M : Mk X.K C f) (F : FnOk X.prog X.w X.K X.mg X.base (L2.CX X.prog X.w) k f fd ps sp) (hr : Room (k + 1) X.A) (hg : Gl X x) (hm : X.mg x = some (.ref C)) (hb : Binds X.K fd ps []) (tk : Takes X W)
    (ha : PA X (e :: es) t) (hdb : (x == ("__debug__" : Str)) = false := by decide) (he : starEach (e :: es) X.env = (false, eval e X.env) :: starEach es X.env := by rfl) (hpl : (backTo pos (starEach es X.env)).any (·.1) = false := by rfl) :
    PE X (.Call (.Name x p) (e :: es) [] pos) (tMakeS C sp (WE W) t) := by
  refine ⟨fun pins s σ H Q I h => ?_⟩
  refine wpAny_Call_Name_kw (ld_glob I hg hm ?_ hdb)
  refine PySem.W.callWith_K (h₀ := X.base) I.ok.mod.kin M.kp (thn (ha.run pos pins s σ H _ I h) fun us s1 hh => ?_) he hpl
  obtain ⟨vs, H1, I1, r, q⟩ := hh
  exact ⟨I1.kIn, make_run M F hr hb (passAt tk σ) I1 r q⟩
end
/-- an exception class as a value -/
theorem pe_cls {X : Cx} {x : Str} {C : Addr} {pos : Pos} (hg : Gl X x) (h : ExX X.K X.mg x C) (hd : (x == ("__debug__" : Str)) = false := by decide) : PE X (.Name x pos) (tC (.ref C)) := pe_glob hg h.g rfl hd
theorem bb_ValueError : bootBuiltins "ValueError" = some (.type "ValueError") := by decide +kernel
theorem allK {X : Cx} {K : PySem.W.Frag} (e : X.K = K) (hc : X.calm = true) : CallR X (.builtin "all") (rAll K) := e ▸ cr_all hc
/-! ### isinstance's answers from what the written part tells -/
theorem kit_self {K : PySem.W.Frag} {C : Addr} : PySem.W.kitOne K (.ref C) (.ref C) = some true := by
  unfold PySem.W.kitOne
  rw [if_pos (beq_self_eq_true _)]
theorem kit_sub {K : PySem.W.Frag} {t : Value} {C : Addr} {b : Bool} (n : (t == .ref C) = false) (hd : PySem.W.hasDictIn K C = true) (ht : PySem.W.typeIn K (.ref C) = some (.type "type")) (h : PySem.W.subIn K t (.ref C) = some b) : PySem.W.kitOne K t (.ref C) = some b := by
  obtain ⟨cd, hc, _⟩ := PySem.W.any_some hd
  unfold PySem.W.kitOne
  rw [n, if_neg Bool.false_ne_true]
  show (if ((PySem.W.clsIn K C).isSome && PySem.W.typeIn K (.ref C) == some (.type "type")) = true then PySem.W.subIn K t (.ref C) else none) = some b
  rw [if_pos (by rw [hc, ht]; rfl)]
  exact h
theorem kit_ve {K : PySem.W.Frag} {C : Addr} {b : Bool} (h : PySem.W.subIn K (.ref C) (.type "ValueError") = some b) : PySem.W.kitOne K (.ref C) (.type "ValueError") = some b := by
  unfold PySem.W.kitOne
  rw [show ((Value.ref C == Value.type "ValueError") = false) from rfl, if_neg Bool.false_ne_true]
  show (if PySem.W.kitMeta "ValueError" = true then PySem.W.subIn K (.ref C) (.type "ValueError") else none) = some b
  rw [if_pos (by decide +kernel)]
  exact h
theorem kit_no {K : PySem.W.Frag} {t c : Value} {r : List Value} (h : PySem.W.kitOne K t c = some false) (g : PySem.W.kitAny K t r = some false) : PySem.W.kitAny K t (c :: r) = some false := by
  unfold PySem.W.kitAny
  rw [h]
  exact g
theorem kit_nil {K : PySem.W.Frag} {t : Value} : PySem.W.kitAny K t [] = some false := rfl
end Lt

/-! Lt, part M: defs that store nothing, called from a generator expression's element; all(.. for x in e). -/
namespace Lt
open PySem PySem.Spec PyProof.Rows L2

/-! ### all is kept -/
theorem kp_trans {s t u : Shared} (a : Keeps s t) (b : Keeps t u) : Keeps s u := by
  obtain ⟨h, k, rfl, p⟩ := a
  obtain ⟨h', k', rfl, q⟩ := b
  exact ⟨h', k', rfl, fun c o e => q c o (p c o e)⟩
theorem kp_tok (s : Shared) (k : Nat) : Keeps s { s with toks := k } := ⟨s.heap, k, rfl, fun _ _ e => e⟩
theorem kp_get {s t : Shared} (a : Keeps s t) {b : Addr} {o : Obj} (e : s.heap.get? b = some o) : t.heap.get? b = some o := by
  obtain ⟨h, k, rfl, p⟩ := a
  exact p b o e
/-- what stood at the base stands -/
def BK (base : Heap) (s : Shared) : Prop := ∀ b o, base.get? b = some o → s.heap.get? b = some o
theorem BK.kp {base : Heap} {s t : Shared} (x : BK base s) (k : Keeps s t) : BK base t := fun b o e => kp_get k (x b o e)

section
variable {P : Program} {w : World} {K : PySem.W.Frag} {mg : Str → Option Value} {base : Heap}
/-- a def that stores nothing, by its body; whatever stands around -/
theorem pure_def {x qual : Str} {st : Stmt} {f : Addr} {fd : FuncData} {N ps : List Str} {A : Around} {s : Shared} {us : List Value} {v : Value} (F : Fun K x qual st f fd) (S : FnScope N ps (defScope st)) (hb : Binds K fd ps []) (M : L2.Mod K mg base) (bk : BK base s)
    (room : A.depth < recursionLimit) (hl : us.length = ps.length)
    (body : ∀ (cdv : Value) (s1 : Shared) (E : Value → Shared → Prop), InCallC s s.heap.objs.size (bindL (envOfC qual (defScope st) s.heap.objs.size f cdv).kindOf (ps.zip us) fun _ => none) (cellsFrom (s.heap.objs.size + 1) (defScope st).names []) (bindC (envOfC qual (defScope st) s.heap.objs.size f cdv).kindOf (ps.zip us) fun _ => none) s1 →
      wpAny (model P w) (A.deeper (envOfC qual (defScope st) s.heap.objs.size f cdv)) (execs (defBody st) (envOfC qual (defScope st) s.heap.objs.size f cdv)) (fun fl s' => fl = .ret v ∧ Keeps s s') E s1) :
    codeAny (model P w) A (.call (.ref f) ⟨us, []⟩) (fun r s' => r = .ok (.ret v) ∧ Keeps s s') s := by
  obtain ⟨oc, od, kV, doc, pm, an, cdv, ct, osl, rfl, lk, hcd⟩ := F.ex
  have KX : K.In s.heap := M.kin.keeps bk
  have lim : s.heap.NoLimit := M.nolimit.keeps bk
  have hbind := hb s us KX (by rw [List.append_nil]; exact hl)
  rw [List.append_nil] at hbind
  refine codeAny_call_function room (KX _ _ lk) rfl S.co S.gen rfl (PySem.W.codeRec_of KX hcd) (hbind _ _ _ _ ?_)
  refine wpAny_newFunctionEnv_cells S.kind (fun ⟨n, u⟩ hy => ?_) fun env he s1 z => ?_
  · rcases S.par n (List.of_mem_zip hy).1 with q | q
    · exact .inl q
    · exact .inr ⟨q, PySem.W.cellsFrom_some _ _ _ (.inl q)⟩
  · subst he
    refine ⟨lim.keeps z.toInCall.keep, codeAny_func ?_⟩
    refine wpAny_mono (body cdv s1 _ z) (fun fl s' hs => ?_) fun e s' hs => hs
    obtain ⟨rfl, hk⟩ := hs
    exact ⟨rfl, hk⟩
/-- a global name of the module, a builtin's -/
theorem nm_glob {env : Env} {A : Around} {E : Value → Shared → Prop} {s : Shared} {x : Str} {u : Value} {pos : Pos} {Q : Value → Shared → Prop} (M : L2.Mod K mg base) (bk : BK base s) (hk : env.scope.kind = .function) (hx : env.kindOf x = some .globalImplicit) (hg : env.globals = mainGlobals) (hm : mg x = some u) (h : Q u s)
    (hd : (x == ("__debug__" : Str)) = false := by decide) : wpAny (model P w) A (eval (.Name x pos) env) Q E s :=
  Calls.Name_function_global hk hx (Calls.loadGlobal_global (by rw [hg]; exact M.glob.keeps bk) hm h) hd
theorem nm_blt {env : Env} {A : Around} {E : Value → Shared → Prop} {s : Shared} {x : Str} {u : Value} {pos : Pos} {Q : Value → Shared → Prop} (M : L2.Mod K mg base) (bk : BK base s) (hk : env.scope.kind = .function) (hx : env.kindOf x = some .globalImplicit) (hg : env.globals = mainGlobals) (hb : env.builtins = builtinsNs) (hm : mg x = none) (hv : bootBuiltins x = some u) (h : Q u s)
    (hn : x ≠ "__name__" := by decide) (hd : (x == ("__debug__" : Str)) = false := by decide) : wpAny (model P w) A (eval (.Name x pos) env) Q E s := by
  obtain ⟨mb, h1, h2⟩ := M.blt
  exact Calls.Name_function_global hk hx (Calls.loadGlobal_builtin (by rw [hg]; exact M.glob.keeps bk) hm (by rw [hb]; exact h1.keeps bk) ((h2 x hn).trans hv) h) hd
theorem nm_loc {env : Env} {A : Around} {E : Value → Shared → Prop} {s : Shared} {m : Str → Option Value} {x : Str} {u : Value} {pos : Pos} {Q : Value → Shared → Prop} (hn : s.heap.Ns env.locals m) (hk : env.scope.kind = .function) (hx : env.kindOf x = some .local) (hm : m x = some u) (h : Q u s)
    (hd : (x == ("__debug__" : Str)) = false := by decide) : wpAny (model P w) A (eval (.Name x pos) env) Q E s := wpAny_Name (wpAny_loadName_local hk hx hn hm h) hd
theorem nm_free {env : Env} {A : Around} {E : Value → Shared → Prop} {s : Shared} {x : Str} {c : Addr} {u : Value} {pos : Pos} {Q : Value → Shared → Prop} (hk : env.scope.kind = .function) (hx : env.kindOf x = some .free) (hc : env.cells.lookup x = some c) (hv : s.heap.IsCell c (some u)) (h : Q u s)
    (hn : (x == ("__classdict__" : Str)) = false := by decide) (hd : (x == ("__debug__" : Str)) = false := by decide) : wpAny (model P w) A (eval (.Name x pos) env) Q E s := wpAny_Name (wpAny_loadName_free hk hx hc hv h hn) hd
/-- a call f(e, ..) of an own def -/
theorem nm_call {env : Env} {A : Around} {E : Value → Shared → Prop} {s : Shared} {x : Str} {f : Addr} {e : Expr} {es : List Expr} {p pos : Pos} {Q : Value → Shared → Prop} (M : L2.Mod K mg base) (bk : BK base s) (hk : env.scope.kind = .function) (hx : env.kindOf x = some .globalImplicit) (hg : env.globals = mainGlobals) (hm : mg x = some (.ref f)) (kp : PySem.W.keepIn K (.ref f) = true)
    (h : wpAny (model P w) A (spliced (backTo pos (starEach (e :: es) env))) (fun vs s1 => BK base s1 ∧ codeAny (model P w) A (.call (.ref f) ⟨vs, []⟩) (fun r s' => match r with | .ok (.ret v) => Q v s' | .ok _ => False | .error z => E z s') s1) E s)
    (he : starEach (e :: es) env = (false, eval e env) :: starEach es env := by rfl) (hpl : (backTo pos (starEach es env)).any (·.1) = false := by rfl) (hd : (x == ("__debug__" : Str)) = false := by decide) :
    wpAny (model P w) A (eval (.Call (.Name x p) (e :: es) [] pos) env) Q E s := by
  refine wpAny_Call_Name_kw (nm_glob M bk hk hx hg hm ?_ hd)
  refine PySem.W.callWith_K (h₀ := base) M.kin kp (wpAny_mono h (fun vs s1 h1 => ?_) fun _ _ z => z) he hpl
  exact ⟨M.kin.keeps h1.1, wpAny_call (by rw [List.nil_append]; exact h1.2)⟩
end

/-! ### a generator expression of one clause, walked by all() -/
section
variable {X : Cx} {pins : List (Addr × Obj)} {σ : L2.St} {H H1 : Hp} {s s1 : Shared}
/-- the element at place i is the truth tr i, wherever it is reckoned -/
def EltG (X : Cx) (scope : Scope) (x : Str) (elt : Expr) (h0 : Heap) (Pt : Addr) (Pv : Nat → Value → Prop) (tr : Nat → Bool) : Prop :=
  ∀ (cenv : Env) (B : Around) (E2 : Value → Shared → Prop) (i : Nat) (v : Value) (t : Shared) (m2 : Str → Option Value), cenv.scope = scope → cenv.globals = X.env.globals → cenv.builtins = builtinsNs → cenv.cells = cloFrom X.env.cells scope.names [] →
    B.handled = none → B.depth ≤ X.A.depth + 1 → B.units ≤ X.A.units + 8 → Pv i v → t.heap.Ns cenv.locals m2 → m2 x = some v → (∀ b o, b ≠ Pt → h0.get? b = some o → t.heap.get? b = some o) →
    wpAny (model X.prog X.w) B (eval elt cenv) (fun y t' => y = .bool (tr i) ∧ Keeps t t') E2 t
/-- the iterable xv stands at s1: how it is walked, what the elements are, what follows -/
def Ahead (X : Cx) (pins : List (Addr × Obj)) (σ : L2.St) (scope : Scope) (x : Str) (elt : Expr) (Pt : Addr) (Q2 : Value → Shared → Prop) (xv : Value) (s1 : Shared) : Prop :=
  ∃ (H1 : Hp) (n : Nat) (Pv : Nat → Value → Prop) (tr : Nat → Bool) (ps : Array Value), Inv X pins σ H1 s1 ∧ H1 Pt = some (.tbl ps) ∧ TriplesOk ps.toList ∧
    (∀ G : Value → Shared → Prop, (∀ (o : Obj) (St : Nat → Heap → Prop) (fp : List Addr), (∀ B : Around, B.handled = none → Walks X.prog X.w B s1.heap.objs.size fp [s1.heap.objs.size] n Pv St) →
      (∀ b ∈ fp, b = s1.heap.objs.size ∨ (b < s1.heap.objs.size ∧ b ≠ Pt)) → St 0 (s1.heap.push o) → G (.ref s1.heap.objs.size) { s1 with heap := s1.heap.push o }) → wpAny (model X.prog X.w) X.A (pyIter xv) G X.xe s1) ∧
    EltG X scope x elt s1.heap Pt Pv tr ∧
    ∀ (g : Addr) (s5 : Shared) (fp wr : List Addr) (G : Array GenState → Array GenState → Prop) (F : Nat → Value → Prop) (St : Nat → Shared → Prop), WalksS X.prog X.w X.A.in1 g fp wr G n F St → St 0 s5 → TruthOf X.prog X.w X.A.in1 F tr →
      (∀ s2, Moved wr G s5 s2 → ∃ H2, GxR.Tabbed Pt H1 H2 ∧ Inv X pins σ H2 s2) → Q2 (.ref g) s5
theorem gen_core {c Pt : Addr} {elt iter : Expr} {x : Str} {px gpos : Pos} {scope : Scope} {k : Nat} {Q2 : Value → Shared → Prop}
    (hr : Room k X.A) (TB : GxR.TabB X.base X.mg c Pt) (hcode : X.env.code = .ref c) (S : GxR.GenS X.env scope x) (hs : ∀ v, genFold iter X.env v = pure v)
    (hev : wpAny (model X.prog X.w) X.A (eval iter X.env) (Ahead X pins σ scope x elt Pt Q2) X.xe s) :
    wpAny (model X.prog X.w) X.A (eval (.GeneratorExp elt [⟨.Name x px, iter, [], 0⟩] scope gpos) X.env) Q2 X.xe s := by
  refine wpAny_GeneratorExp_walksQD hr.hd S.co (closure_ok S.free) S.cell S.dot S.loc S.kind (by have := hr.dp; omega) ?_ hs
  refine wpAny_mono hev (fun v t hv => ?_) fun _ _ z => z
  obtain ⟨H1, n, Pv, tr, ps, J1, hP, hT, hit, hel, hQ⟩ := hv
  refine hit _ fun o St fp W hfp hst => ?_
  have aPs : t.heap.get? Pt = some { cls := .none, data := .fields ps } := J1.hok Pt _ hP
  have aPl : Pt < t.heap.objs.size := Heap.lt_size aPs
  have aP2 : (t.heap.push o).get? Pt = some { cls := .none, data := .fields ps } := Heap.get?_push_of_some _ aPs
  have cdh : PySem.W.CodeHd (t.heap.push o) c Pt := TB.code.keeps fun b u e => Heap.get?_push_of_some _ (J1.bk b u e)
  have lm2 : (t.heap.push o).NoLimit := J1.nolimit.push o
  have zsz : (t.heap.push o).objs.size = t.heap.objs.size + 1 := Heap.size_push ..
  obtain ⟨bm, ob, b1, b2, b3, b4, b5, b6, b7, b8⟩ := TB.bm
  have nCP : cStatics ≠ Pt := fun e => by
    obtain ⟨_, hns, _⟩ := J1.nolimit
    obtain ⟨oo, es, ep, ho, hd, _⟩ := hns
    rw [e, aPs] at ho
    cases ho
    cases hd
  have lC : cStatics < t.heap.objs.size := let ⟨_, hns, _⟩ := J1.nolimit; hns.lt
  have go : ∀ (code : Value) (h3 : Heap) (tk : Nat) (ps2 : Array Value), Heap.ExtBut Pt (t.heap.push o) h3 → (t.heap.push o).objs.size ≤ h3.objs.size → h3.get? Pt = some { cls := .none, data := .fields ps2 } → (∃ more, ps2 = ps ++ more) → TriplesOk ps2.toList →
      wpAny (model X.prog X.w) X.A (builtinsFor X.env.globals X.env.builtins) (fun bi s4 =>
        ∃ Ia fq wr n0 Pf St0 pz F, Value.ref t.heap.objs.size = .ref Ia ∧ (∀ B : Around, B.handled = none → Walks X.prog X.w B Ia fq wr n0 Pf St0) ∧ St0 0 s4.heap ∧ (∀ b ∈ fq, b < s4.heap.objs.size) ∧ s4.heap.NoLimit ∧ cStatics ∉ wr ∧
          (∀ href : Heap, (∀ b u, s4.heap.get? b = some u → href.get? b = some u) →
            QuietGenD X.prog X.w (genEnv scope (cloFrom X.env.cells scope.names []) s4.heap.objs.size code bi X.env) x [] elt (List.range s4.heap.objs.size) wr Pf pz F href (X.A.depth + 1) (X.A.units + 8)) ∧
          (∀ a h5 tk5 gs, gs.bare = true → s4.heap.objs.size < a → h5.objs.size = a + 1 → (∀ b u, s4.heap.get? b = some u → h5.get? b = some u) →
            WalksS X.prog X.w X.A.in4 a (a :: s4.heap.objs.size :: List.range s4.heap.objs.size) (s4.heap.objs.size :: wr) (GenOnlyQ s4.gens.size) (passing pz n0 0).length
              (fun j y => ∃ i, (passing pz n0 0)[j]? = some i ∧ F i y) (GenAt X.prog X.w X.A.in4 a s4.gens.size s4.heap.objs.size (List.range s4.heap.objs.size) wr pz n0 F) →
            GenAt X.prog X.w X.A.in4 a s4.gens.size s4.heap.objs.size (List.range s4.heap.objs.size) wr pz n0 F 0 { s4 with gens := s4.gens.push gs, toks := tk5, heap := h5 } →
            Q2 (.ref a) { s4 with gens := s4.gens.push gs, toks := tk5, heap := h5 })) X.xe { t with heap := h3, toks := tk } := by
    intro code h3 tk ps2 hx hz hP3 hmore hT3
    have hz1 : t.heap.objs.size + 1 ≤ h3.objs.size := Nat.le_trans (Nat.le_of_eq zsz.symm) hz
    have keep3 : ∀ b u, b ≠ Pt → t.heap.get? b = some u → h3.get? b = some u := fun b u hb e => hx b u hb (Heap.get?_push_of_some _ e)
    refine wpAny_builtinsFor (m := X.mg) (by rw [J1.ok.glob]; exact ((J1.mod.glob.keeps J1.bk).push o).extBut hx TB.gP) b1 b2 (keep3 _ _ b4 (J1.bk _ _ b5)) b6 b7 b8 ?_
    refine ⟨t.heap.objs.size, fp, [t.heap.objs.size], n, Pv, St, (fun _ => true), (fun i y => y = .bool (tr i)), rfl, W, ?_, ?_, lm2.extBut hx nCP, ?_, ?_, ?_⟩
    · refine (W X.A hr.hd).frame _ _ _ hst fun b hb u e => hx b u (fun q => ?_) e
      rcases hfp b hb with q2 | q2
      · exact Nat.ne_of_lt aPl (q.symm.trans q2)
      · exact q2.2 q
    · intro b hb
      show b < h3.objs.size
      rcases hfp b hb with q | ⟨q, _⟩
      · rw [q]
        exact hz1
      · exact Nat.lt_of_lt_of_le (Nat.lt_succ_of_lt q) hz1
    · intro q
      rcases List.mem_cons.mp q with q | q
      · exact Nat.ne_of_lt lC q
      · cases q
    · intro href hh
      refine ⟨fun B E2 i v t2 m2 hA hD hU hPv hn hm hk => ?_, fun B E2 i v t2 m2 hA hD hU hPv hp hn hm hk => ?_⟩
      · simp only [List.forIn_nil]
        exact wpAny_pure ⟨rfl, kp_tok _ _⟩
      · refine hel _ B E2 i v t2 m2 rfl rfl rfl rfl hA hD hU hPv hn hm fun b u hb e => ?_
        refine hk b (List.mem_range.mpr ?_) (fun q => ?_) u (hh b u (keep3 b u hb e))
        · exact Heap.lt_size (keep3 b u hb e)
        · rcases List.mem_cons.mp q with q | q
          · rw [q] at e
            exact Nat.lt_irrefl _ (Heap.lt_size e)
          · cases q
    · intro g h5 tk5 gs hgb hag hz5 hk5 W5 hat
      simp only [GxR.passing_true, List.length_range] at W5
      refine hQ g _ _ _ _ _ _ W5.in4_1 hat ?_ fun s' hm => ?_
      · intro j y sj Qj Ej hy hQj
        obtain ⟨i, hij, rfl⟩ := hy
        obtain ⟨hj, ej⟩ := List.getElem?_eq_some_iff.mp hij
        rw [List.getElem_range] at ej
        subst ej
        exact wpAny_truthy_bool hQj
      · obtain ⟨more, em⟩ := hmore
        have nwr : ∀ b u, t.heap.get? b = some u → b ∉ h3.objs.size :: [t.heap.objs.size] := fun b u e hb => by
          have hl := Heap.lt_size e
          rcases List.mem_cons.mp hb with q | q
          · rw [q] at hl
            have h9 : (h3.objs.size : Nat) < t.heap.objs.size := hl
            omega
          · rcases List.mem_cons.mp q with q | q
            · rw [q] at hl
              exact Nat.lt_irrefl _ hl
            · cases q
        have JJ := GxR.inv_tab (more := more) (h' := s'.heap) (g' := s'.gens) (d' := s'.drawn) (t' := s'.toks) J1 hP (fun b u hb e => hm.heap b u (nwr b u e) (hk5 b u (keep3 b u hb e)))
          (by rw [← em]; exact hm.heap Pt _ (nwr Pt _ aPs) (hk5 Pt _ hP3)) (AllBare.movedS (J1.bare.push hgb) hm)
        rw [GxR.sh_eta t s' hm.os] at JJ
        exact ⟨L2.upd H1 Pt (.tbl (ps ++ more)), ⟨⟨ps ++ more, upd_same, by rw [← em]; exact hT3⟩, fun b hb => upd_ne hb⟩, JJ⟩
  refine ⟨lm2, ?_⟩
  cases hf : codeAmong gpos ps.toList with
  | none =>
    refine wpAny_genexprCodeX hcode (cdh.code aP2 hT) (cdh.tab aP2) hf fun c' h' tk hx hge hlt hco' _ htab' _ => ?_
    obtain ⟨o1, vs, f1, tf, fl, tg, inF, tx, tt, op, _, _, _, _, _, _, _, _, _, htr, _⟩ := hco'
    exact go _ h' tk _ hx (Nat.le_trans hge (Nat.le_of_lt hlt)) htab'.2 ⟨_, rfl⟩ htr
  | some cv =>
    refine wpAny_genexprCode_hit hcode (cdh.code aP2 hT) hf ?_
    exact go cv (t.heap.push o) t.toks ps (Heap.ExtBut.refl _ _) (Nat.le_refl _) aP2 ⟨#[], by simp⟩ hT
/-- all(elt for x in iter) -/
theorem all_core {c Pt : Addr} {elt iter : Expr} {x : Str} {px p pos gpos : Pos} {scope : Scope} {k : Nat} {Q : VK}
    (hr : Room k X.A) (hg : Gl X "all") (hm : X.mg "all" = none) (TB : GxR.TabB X.base X.mg c Pt) (hcode : X.env.code = .ref c) (S : GxR.GenS X.env scope x) (hs : ∀ v, genFold iter X.env v = pure v) (I : Inv X pins σ H s)
    (h : wpAny (model X.prog X.w) X.A (eval iter X.env) (fun xv s1 => ∃ (H1 : Hp) (n : Nat) (Pv : Nat → Value → Prop) (tr : Nat → Bool) (ps : Array Value), Inv X pins σ H1 s1 ∧ H1 Pt = some (.tbl ps) ∧ TriplesOk ps.toList ∧
      (∀ G : Value → Shared → Prop, (∀ (o : Obj) (St : Nat → Heap → Prop) (fp : List Addr), (∀ B : Around, B.handled = none → Walks X.prog X.w B s1.heap.objs.size fp [s1.heap.objs.size] n Pv St) →
        (∀ b ∈ fp, b = s1.heap.objs.size ∨ (b < s1.heap.objs.size ∧ b ≠ Pt)) → St 0 (s1.heap.push o) → G (.ref s1.heap.objs.size) { s1 with heap := s1.heap.push o }) → wpAny (model X.prog X.w) X.A (pyIter xv) G X.xe s1) ∧
      EltG X scope x elt s1.heap Pt Pv tr ∧ ∀ H2, GxR.Tabbed Pt H1 H2 → Q (.bl ((List.range n).all tr)) H2) X.xe s)
    (he : starEach [.GeneratorExp elt [⟨.Name x px, iter, [], 0⟩] scope gpos] X.env = (false, eval (.GeneratorExp elt [⟨.Name x px, iter, [], 0⟩] scope gpos) X.env) :: starEach [] X.env := by rfl) :
    wpAny (model X.prog X.w) X.A (eval (.Call (.Name "all" p) [.GeneratorExp elt [⟨.Name x px, iter, [], 0⟩] scope gpos] [] pos) X.env) (EP X pins σ Q) X.xe s := by
  refine wpAny_Call_Name_kw (ld_blt I hg hm bb_all ?_)
  refine PyProof.Rows.callWith_builtin1 ?_ he (by rfl)
  rw [he]
  show wpAny _ _ (spliced ((false, eval (.GeneratorExp elt [⟨.Name x px, iter, [], 0⟩] scope gpos) X.env) :: backTo pos (starEach [] X.env))) _ _ s
  refine Calls.spliced_cons (gen_core (pins := pins) (σ := σ) hr TB hcode S hs (wpAny_mono h (fun xv s1 hh => ?_) fun _ _ z => z))
  obtain ⟨H1, n, Pv, tr, ps, J, hP, hT, hit, hel, hq⟩ := hh
  refine ⟨H1, n, Pv, tr, ps, J, hP, hT, hit, hel, fun g s5 fp wr G F St W hst htr hI => ?_⟩
  refine Calls.spliced_nil ?_
  refine call_all_walkS (W.self 0 _ _ _ hst ⟨g, fp, wr, G, _, F, St, _, rfl, W, hst, htr, fun s' hmv => ?_⟩)
  obtain ⟨H2, hT2, JJ⟩ := hI s' hmv
  exact ⟨.bl _, H2, JJ, rfl, hq H2 hT2⟩
/-- all(elt for x in e), e a text of which each sign is tested -/
def tAllL (Pt : Addr) (pb : Nat → Bool) (te : TE) : TE := fun σ H Q => te σ H fun v H1 => ∃ z : Str, v = .str z ∧ GxR.TabG H1 Pt ∧ ∀ H2, GxR.Tabbed Pt H1 H2 → Q (.bl (z.cps.toList.all pb)) H2
theorem pe_allL {c Pt : Addr} {elt iter : Expr} {x : Str} {px p pos gpos : Pos} {scope : Scope} {pb : Nat → Bool} {te : TE} {k : Nat}
    (hr : Room k X.A) (hg : Gl X "all") (hm : X.mg "all" = none) (TB : GxR.TabB X.base X.mg c Pt) (hcode : X.env.code = .ref c) (S : GxR.GenS X.env scope x) (hi : PE X iter te) (hs : ∀ v, genFold iter X.env v = pure v)
    (hel : ∀ (cenv : Env) (B : Around) (E2 : Value → Shared → Prop) (cc : Nat) (tk : Tok) (t : Shared) (m2 : Str → Option Value), L2.Mod X.K X.mg X.base → cenv.scope = scope → cenv.globals = X.env.globals → t.heap.Ns cenv.locals m2 → m2 x = some (.str ⟨#[cc]⟩ tk) → BK X.base t →
      wpAny (model X.prog X.w) B (eval elt cenv) (fun y t' => y = .bool (pb cc) ∧ Keeps t t') E2 t)
    (he : starEach [.GeneratorExp elt [⟨.Name x px, iter, [], 0⟩] scope gpos] X.env = (false, eval (.GeneratorExp elt [⟨.Name x px, iter, [], 0⟩] scope gpos) X.env) :: starEach [] X.env := by rfl) :
    PE X (.Call (.Name "all" p) [.GeneratorExp elt [⟨.Name x px, iter, [], 0⟩] scope gpos] [] pos) (tAllL Pt pb te) := by
  refine ⟨fun pins s σ H Q I h => ?_⟩
  refine all_core hr hg hm TB hcode S hs I (thn (hi.run pins s σ H _ I h) fun xv s1 ⟨v, H1, I1, r1, z, ev, ⟨ps, hP, hT⟩, q⟩ => ?_) he
  subst ev
  obtain ⟨tk, rfl⟩ := (show ∃ tk, xv = Value.str z tk from r1)
  refine ⟨H1, z.cps.size, SignAt z, GxR.trF pb z.cps.toList, ps, I1, hP, hT, fun G hG => ?_, ?_, fun H2 hT2 => ?_⟩
  · exact wpAny_pyIter_str fun o St W hst => hG o St [s1.heap.objs.size] W (fun b hb => .inl (List.mem_singleton.mp hb)) hst
  · intro cenv B E2 i v t m2 h1 h2 h3 h4 h5 h6 h7 hv hn hm2 hk
    obtain ⟨cc, u, hcc, rfl⟩ := hv
    have e9 : z.cps.toList[i]? = some cc := by rw [Array.getElem?_toList]; exact hcc
    rw [GxR.trF_some e9]
    refine hel cenv B E2 cc u t m2 I.ok.mod h1 (h2.trans rfl) hn hm2 fun b o e => hk b o (fun q => ?_) (I1.bk b o e)
    rw [q] at e
    rw [(I1.bs _ _ e).2] at hP
    cases hP
  · rw [GxR.all_signs z pb]
    exact q H2 hT2
def trN (pb : Int → Bool) (ns : List Int) (i : Nat) : Bool := match ns[i]? with
  | some n => pb n
  | none => false
theorem trN_at {pb : Int → Bool} {ns : List Int} {i : Nat} (h : i < ns.length) : trN pb ns i = pb ns[i] := by
  unfold trN
  rw [List.getElem?_eq_getElem h]
/-- all(elt for x in e), e a tuple of numbers -/
def tAllI (K : PySem.W.Frag) (Pt : Addr) (Ps : L2.St → Prop) (pb : L2.St → Int → Bool) (te : TE) : TE := fun σ H Q => te σ H fun v H1 => Ps σ ∧ ∃ (a : Addr) (ns : List Int), v = .ref a ∧ H1 a = some (.tup (ns.map .int)) ∧ GxR.TabG H1 Pt ∧ ∀ H2, GxR.Tabbed Pt H1 H2 → Q (.bl (ns.all (pb σ))) H2
theorem pe_allI {c Pt : Addr} {elt iter : Expr} {x : Str} {px p pos gpos : Pos} {scope : Scope} {Ps : L2.St → Prop} {pb : L2.St → Int → Bool} {te : TE} {k : Nat}
    (hr : Room k X.A) (hg : Gl X "all") (hm : X.mg "all" = none) (TB : GxR.TabB X.base X.mg c Pt) (hcode : X.env.code = .ref c) (S : GxR.GenS X.env scope x) (hi : PE X iter te) (hs : ∀ v, genFold iter X.env v = pure v)
    (hel : ∀ (σ : L2.St) (m : Str → Option Value) (s1 : Shared) (cenv : Env) (B : Around) (E2 : Value → Shared → Prop) (n : Int) (tk : Tok) (t : Shared) (m2 : Str → Option Value), L2.Mod X.K X.mg X.base → Ps σ → (∀ (i : Nat) (y : Str) (v : V), X.N[i]? = some y → σ[i]? = some (some v) → Vis X.env.scope y → ∃ u, RelV v u ∧ Look X.env s1.heap m y u) →
      cenv.scope = scope → cenv.globals = X.env.globals → cenv.builtins = builtinsNs → cenv.cells = cloFrom X.env.cells scope.names [] → B.handled = none → B.depth ≤ X.A.depth + 1 → B.units ≤ X.A.units + 8 → t.heap.Ns cenv.locals m2 → m2 x = some (.int n tk) → BK X.base t → (∀ (a : Addr) (v : Option Value), (∃ y, X.env.cells.lookup y = some a) → s1.heap.IsCell a v → t.heap.IsCell a v) →
      wpAny (model X.prog X.w) B (eval elt cenv) (fun y t' => y = .bool (pb σ n) ∧ Keeps t t') E2 t)
    (he : starEach [.GeneratorExp elt [⟨.Name x px, iter, [], 0⟩] scope gpos] X.env = (false, eval (.GeneratorExp elt [⟨.Name x px, iter, [], 0⟩] scope gpos) X.env) :: starEach [] X.env := by rfl) :
    PE X (.Call (.Name "all" p) [.GeneratorExp elt [⟨.Name x px, iter, [], 0⟩] scope gpos] [] pos) (tAllI X.K Pt Ps pb te) := by
  refine ⟨fun pins s σ H Q I h => ?_⟩
  refine all_core hr hg hm TB hcode S hs I (thn (hi.run pins s σ H _ I h) fun xv s1 ⟨v, H1, I1, r1, hps, a, ns, ev, ha, ⟨ps, hP, hT⟩, q⟩ => ?_) he
  subst ev
  obtain rfl : xv = Value.ref a := r1
  obtain ⟨its, rv, ht, hz⟩ := I1.tuple (SqT.of ha)
  have hlen : its.length = ns.length := by rw [← rv.length, List.length_map]
  have hap : a ≠ Pt := fun e => by
    rw [e, hP] at ha
    cases ha
  have hal : a < s1.heap.objs.size := let ⟨_, e, _⟩ := ht; Heap.lt_size e
  refine ⟨H1, its.toArray.size, fun i v => its.toArray[i]? = some v, trN (pb σ) ns, ps, I1, hP, hT, fun G hG => ?_, ?_, fun H2 hT2 => ?_⟩
  · refine wpAny_pyIter_tuple ht (hG _ _ [s1.heap.objs.size, a] (fun B hB => Walks.tuple hB _ _ (Nat.ne_of_lt hal) its.toArray) (fun b hb => ?_) ⟨⟨_, Heap.get?_push_size _ rfl, rfl, rfl⟩, ?_⟩)
    · rcases List.mem_cons.mp hb with e | e
      · exact .inl e
      · rw [List.mem_singleton.mp e]
        exact .inr ⟨hal, hap⟩
    · obtain ⟨o, e, r⟩ := ht
      exact ⟨o, Heap.get?_push_of_some _ e, r⟩
  · intro cenv B E2 i v t m2 h1 h2 h3 h4 h5 h6 h7 hv hn hm2 hk
    have hi2 : i < ns.length := by
      obtain ⟨hj, _⟩ := Array.getElem?_eq_some_iff.mp hv
      rw [List.size_toArray] at hj
      omega
    have hv2 : its[i]? = some v := by simpa using hv
    obtain ⟨u, hu, ru⟩ := rv.get (show (ns.map V.int)[i]? = some (V.int ns[i]) by rw [List.getElem?_map, List.getElem?_eq_getElem hi2]; rfl)
    rw [hv2] at hu
    cases hu
    obtain ⟨tk, rfl⟩ := (show ∃ tk, v = Value.int ns[i] tk from ru)
    show wpAny _ _ _ (fun y t' => y = Value.bool (trN (pb σ) ns i) ∧ Keeps t t') _ _
    rw [trN_at hi2]
    obtain ⟨m, _, hl⟩ := I1.loc
    refine hel σ m s1 cenv B E2 ns[i] tk t m2 I.ok.mod hps hl h1 h2 h3 h4 h5 h6 h7 hn hm2 (fun b o e => hk b o (fun q => ?_) (I1.bk b o e)) fun b v hy hv => ?_
    · rw [q] at e
      rw [(I1.bs _ _ e).2] at hP
      cases hP
    · obtain ⟨y, hy⟩ := hy
      obtain ⟨o, e, d⟩ := hv
      refine ⟨o, hk b o (fun q => ?_) e, d⟩
      rw [← q, I1.freeC _ _ hy] at hP
      cases hP
  · rw [List.size_toArray, hlen]
    have e : (List.range ns.length).all (trN (pb σ) ns) = ns.all (pb σ) := by
      rw [Bool.eq_iff_iff, List.all_eq_true, List.all_eq_true]
      constructor
      · intro hh b hb
        obtain ⟨j, hj, e⟩ := List.getElem_of_mem hb
        have q := hh j (List.mem_range.mpr hj)
        rw [trN_at hj, e] at q
        exact q
      · intro hh j hj
        rw [trN_at (List.mem_range.mp hj)]
        exact hh _ (List.getElem_mem _)
    rw [e]
    exact q H2 hT2
end
end Lt

/-! Lt, part N: items of a dict told by its object; len(set(t)); methods that may raise; heaps of which some things may change; the end with tables. -/
namespace Lt
open PySem PySem.Spec PyProof.Rows L2

/-! ### heaps of which the things in S may change -/
structure LeB (S : Addr → Prop) (H H' : Hp) : Prop where
  ob : ∀ a o, ¬ S a → H a = some o → isTbl o = false → H' a = some o
  tb : ∀ a ps, H a = some (.tbl ps) → ∃ qs, H' a = some (.tbl qs) ∧ (TriplesOk ps.toList → TriplesOk qs.toList)
theorem LeB.of {S : Addr → Prop} {H H' : Hp} (l : Le H H') : LeB S H H' := ⟨fun a o _ e n => l.ob a o e n, l.tb⟩
theorem LeB.refl (S : Addr → Prop) (H : Hp) : LeB S H H := .of (.refl H)
theorem LeB.trans {S : Addr → Prop} {H H1 H2 : Hp} (p : LeB S H H1) (q : LeB S H1 H2) : LeB S H H2 :=
  ⟨fun a o s h n => q.ob a o s (p.ob a o s h n) n, fun a ps h => by
    obtain ⟨qs, h1, t1⟩ := p.tb a ps h
    obtain ⟨rs, h2, t2⟩ := q.tb a qs h1
    exact ⟨rs, h2, fun t => t2 (t1 t)⟩⟩
theorem LeB.wider {S T : Addr → Prop} {H H' : Hp} (p : LeB S H H') (h : ∀ a, S a → T a) : LeB T H H' := ⟨fun a o s => p.ob a o (fun z => s (h a z)), p.tb⟩
/-- what stood ahead of all in S -/
theorem LeB.le {S : Addr → Prop} {H0 H H' : Hp} (l : Le H0 H) (p : LeB S H H') (h : ∀ a, S a → H0 a = none) : Le H0 H' :=
  ⟨fun a o e n => p.ob a o (fun z => by rw [h a z] at e; cases e) (l.ob a o e n) n, fun a ps e => by
    obtain ⟨qs, h1, t1⟩ := l.tb a ps e
    obtain ⟨rs, h2, t2⟩ := p.tb a qs h1
    exact ⟨rs, h2, fun t => t2 (t1 t)⟩⟩
theorem LeB.mut {S : Addr → Prop} {H H' : Hp} {p : Addr} {o : HO} (e : LeB S H H') (h : S p) (n : ∀ ps, H' p ≠ some (.tbl ps)) : LeB S H (L2.upd H' p o) :=
  ⟨fun a u s ha m => by rw [upd_ne (fun z => s (by rw [z]; exact h))]; exact e.ob a u s ha m, fun a ps ha => by
    obtain ⟨qs, h1, t1⟩ := e.tb a ps ha
    refine ⟨qs, ?_, t1⟩
    rw [upd_ne (fun z => n qs (by rw [← z]; exact h1))]
    exact h1⟩
theorem LeB.lst {S : Addr → Prop} {H H' : Hp} (p : LeB S H H') {a : Addr} {xs : List V} (s : ¬ S a) (h : H a = some (.lst xs)) : H' a = some (.lst xs) := p.ob a _ s h rfl
theorem LeB.tup {S : Addr → Prop} {H H' : Hp} (p : LeB S H H') {a : Addr} {xs : List V} (s : ¬ S a) (h : H a = some (.tup xs)) : H' a = some (.tup xs) := p.ob a _ s h rfl
theorem Tabbed.le {Pt : Addr} {H H' : Hp} (g : GxR.TabG H Pt) (t : GxR.Tabbed Pt H H') : Le H H' := by
  obtain ⟨qs, hq, tq⟩ := t.1
  refine ⟨fun a o e n => ?_, fun a ps e => ?_⟩
  · by_cases h : a = Pt
    · obtain ⟨ps, hp, _⟩ := g
      rw [h, hp] at e
      cases e
      cases n
    · rw [t.2 a h]
      exact e
  · by_cases h : a = Pt
    · rw [h]
      exact ⟨qs, hq, fun _ => tq⟩
    · rw [t.2 a h]
      exact ⟨ps, e, id⟩
theorem TabG.le {H H' : Hp} {Pt : Addr} (g : GxR.TabG H Pt) (l : Le H H') : GxR.TabG H' Pt := by
  obtain ⟨ps, h, t⟩ := g
  obtain ⟨qs, h1, t1⟩ := l.tb _ _ h
  exact ⟨qs, h1, t1 t⟩
theorem TabG.leB {S : Addr → Prop} {H H' : Hp} {Pt : Addr} (g : GxR.TabG H Pt) (l : LeB S H H') : GxR.TabG H' Pt := by
  obtain ⟨ps, h, t⟩ := g
  obtain ⟨qs, h1, t1⟩ := l.tb _ _ h
  exact ⟨qs, h1, t1 t⟩

/-! ### items of a dict told by its object -/
/-- the entries, as values -/
def EntsV (o : Obj) (kvs : List (V × V)) : Prop := ∃ es ep, o.ExactDict ∧ o.data = .dict es ep ∧ Paired (fun (p : V × V) (e : DictEntry) => RelV p.1 e.key ∧ RelV p.2 e.val) kvs es.toList
def Iti2 (d : Addr) (o : Obj) (kvs : List (V × V)) : It :=
  ⟨fun i H => H d = some (raw d o) ∧ i < kvs.length, fun i H x H' => ∃ p k v, kvs[i]? = some (k, v) ∧ x = .ref p ∧ H p = none ∧ H' = L2.upd H p (.tup [k, v]), fun i H => H d = some (raw d o) ∧ kvs.length ≤ i⟩
theorem walk_i {d : Addr} {o : Obj} {kvs : List (V × V)} : Walk (Iti2 d o kvs) kvs.length (fun H => H d = some (raw d o)) (fun i H x H' => ∃ p k v, kvs[i]? = some (k, v) ∧ x = .ref p ∧ H p = none ∧ H' = L2.upd H p (.tup [k, v])) :=
  ⟨fun _ _ hi q => ⟨q, hi⟩, fun _ q => ⟨q, Nat.le_refl _⟩, fun _ _ _ _ _ _ y => y⟩
theorem paired_get {α β : Type} {R : α → β → Prop} {xs : List α} {ys : List β} (r : Paired R xs ys) : ∀ {i : Nat} {x : α}, xs[i]? = some x → ∃ y, ys[i]? = some y ∧ R x y := by
  induction r with
  | nil =>
    intro i x h
    simp at h
  | @cons p q ps qs h t ih =>
    intro i x e
    cases i with
    | zero =>
      simp at e
      subst e
      exact ⟨q, rfl, h⟩
    | succ i =>
      obtain ⟨y, h1, h2⟩ := ih (by simpa using e)
      exact ⟨y, by simpa using h1, h2⟩
theorem turn_i {P : Program} {w : World} {K : PySem.W.Frag} {d : Addr} {o : Obj} {kvs : List (V × V)} {es : Array DictEntry} {ep : Nat} {elts : List Expr} {kk : Nat} {tpos : Pos} (it : Addr) (hx : o.ExactDict) (hd : o.data = .dict es ep)
    (hv : Paired (fun (p : V × V) (e : DictEntry) => RelV p.1 e.key ∧ RelV p.2 e.val) kvs es.toList) :
    Turn P w K (.Tuple elts kk tpos) (Iti2 d o kvs) [it] it (fun i h => ∃ ok ov, IsItemIter h it d i es.size ep ok ov) where
  mem := by simp
  obj := fun i h st b hb => by
    have e : b = it := by simpa using hb
    subst e
    obtain ⟨ok, ov, e⟩ := st
    exact ⟨_, e, fun v z => nomatch z⟩
  keep := fun i h h' st k => let ⟨ok, ov, e⟩ := st; ⟨ok, ov, k it (by simp) _ e⟩
  item := by
    intro X hP hw hK hc i pins s σ H E I hf st hg
    subst hP hw hK
    obtain ⟨hH, hi⟩ := hg
    have gd := raw_get I.hok hH
    have hsz : kvs.length = es.size := by
      rw [Paired.length hv, Array.length_toList]
    obtain ⟨⟨k, v⟩, hkv⟩ : ∃ p, kvs[i]? = some p := ⟨kvs[i], List.getElem?_eq_getElem hi⟩
    obtain ⟨en, hen, rk, rv⟩ := paired_get hv hkv
    have hie : i < es.size := by omega
    have een : es[i] = en := by
      rw [Array.getElem?_toList, Array.getElem?_eq_getElem hie] at hen
      exact Option.some.inj hen
    obtain ⟨ok, ov, he⟩ := st
    have hlt : it < s.heap.objs.size := Heap.lt_size he
    refine wpAny_pyNext_items_item_raw he ⟨o, gd, hx, hd⟩ hie fun h' ho hT hz hk => ?_
    refine ⟨_, rfl, wpAny_letOwnedTupleGo_items (s := { s with heap := h' }) ho fun h'' he' sb => ?_⟩
    have hT2 : h''.get? s.heap.objs.size = some { cls := .type "tuple", data := .seq #[es[i].key, es[i].val] } := (sb.2 _ (Nat.ne_of_gt hlt)).trans hT
    have new : ObjOk X.prog X.w (L2.upd H s.heap.objs.size (.tup [k, v])) h'' s.heap.objs.size (.tup [k, v]) :=
      ⟨by show 2 ≤ sizeLine; decide, [es[i].key, es[i].val], .cons (by rw [een]; exact rk) (.cons (by rw [een]; exact rv) .nil), ⟨_, hT2, rfl, _, rfl⟩⟩
    have I1 : Inv X pins σ (L2.upd H s.heap.objs.size (.tup [k, v])) { s with heap := h'' } :=
      I.turnedNew (t' := s.toks) (ch := [it]) (fun b ob hb e => (sb.2 b (by simpa using hb)).trans (hk b ob (by simpa using hb) e)) hf (Nat.le_refl _) new
    refine ⟨.ref s.heap.objs.size, _, I1, rfl, ⟨_, k, v, hkv, rfl, I.hok.fresh (Nat.le_refl _), rfl⟩, ⟨_, _, he'⟩, fun b hb => ?_⟩
    have e : b = it := by simpa using hb
    rw [e, upd_ne (Nat.ne_of_lt hlt)]
    exact (hf it (by simp)).1
  done := by
    intro X hP hw hK hc i pins s σ H E I hf st hg
    subst hP hw hK
    obtain ⟨hH, hi⟩ := hg
    have gd := raw_get I.hok hH
    obtain ⟨f0, f1, f2, f3, f4, f5⟩ := hf it (by simp)
    have hsz : kvs.length = es.size := by
      rw [Paired.length hv, Array.length_toList]
    obtain ⟨ok, ov, he⟩ := st
    exact wpAny_pyNext_items_end_raw (I.ok.hd hc) he ⟨o, gd, hx, hd⟩ (by omega) fun h' eb => ⟨rfl, I.turned (t' := s.toks) (fun b ob hb e => eb b ob hb e) f0 f1 f3 f4 f5⟩
  self := fun A i s Q E st h => let ⟨_, _, e⟩ := st; PySem.W.kcp_self e h
def iNItems (td : TE) : TI := fun σ H R => td σ H fun x H1 => ∃ d o kvs, x = .ref d ∧ H1 d = some (raw d o) ∧ EntsV o kvs ∧ (d == sysModules) = false ∧ R (Iti2 d o kvs) H1
theorem pi_nitems {X : Cx} {e : Expr} {td : TE} {apos cpos tpos : Pos} {elts : List Expr} {kk : Nat} (he : PE X e td) (hbase : attributeBase e "items" X.env (eval e X.env) = eval e X.env := by rfl) (hline : (apos.endLine == cpos.line) = true := by rfl) :
    PI X (.Tuple elts kk tpos) (.Call (.Attribute e "items" apos) [] [] cpos) (iNItems td) := by
  refine ⟨fun pins s σ H R I h => ?_⟩
  refine wpAny_Call_method0_late hbase hline (thn (he.run pins s σ H _ I h) fun u s1 ⟨x, H1, I1, rx, d, o, kvs, ex, hH, ⟨es, ep, hx, hd, hv⟩, hs, q⟩ => ?_)
  subst ex
  obtain rfl : u = Value.ref d := rx
  have gd := raw_get I1.hok hH
  have rw1 : s1.heap.DictRaw d es ep := ⟨o, gd, hx, hd⟩
  obtain ⟨t1, t2, _⟩ := isDict_at I1 ⟨o, es, ep, hH, hx, hd, hs⟩
  refine ⟨"dict", "dict.items", PySem.F.plainAttrs_dict, PySem.F.slot_dict_items, PySem.F.type_dict_items, t1, t2, ?_⟩
  refine Calls.callWith_builtin rfl (PySem.evalArgs_none ?_)
  have I2 : Inv X pins σ H1 { s1 with heap := s1.heap.push { cls := .type "dict_items", data := .fields #[.ref d] } } := I1.kept (t' := s1.toks) fun b ob q => Heap.get?_push_of_some _ q
  refine call_meetsIn PySem.F.slot_dict_items t1 PySem.F.entry_dict_items (PySem.F.args_dict_items_1 _) (meets_dict_items_raw d hs) ⟨⟨es, ep, rw1⟩, ?_⟩
  refine wpAny_pyIter_items_raw (v := s1.heap.objs.size) (d := d) (es := es) (ep := ep) ⟨_, Heap.get?_push_size _ rfl, rfl, rfl⟩ ⟨o, Heap.get?_push_of_some _ gd, hx, hd⟩ ?_
  exact pi_one (tk := s1.toks) I2 _ (turn_i _ hx hd hv) ⟨.none, .none, Heap.get?_push_size _ rfl⟩ q

/-! ### len(set(t)), t a tuple of numbers -/
theorem sub_len {α : Type} [DecidableEq α] : ∀ {xs ys : List α}, xs.Nodup → (∀ x ∈ xs, x ∈ ys) → xs.length ≤ ys.length
  | [], _, _, _ => Nat.zero_le _
  | x :: xs, ys, nd, h => by
    have hx : x ∈ ys := h x List.mem_cons_self
    obtain ⟨n1, n2⟩ := List.nodup_cons.mp nd
    have ih := sub_len (ys := ys.erase x) n2 fun y hy => (List.mem_erase_of_ne (fun e => n1 (by rw [← e]; exact hy))).mpr (h y (List.mem_cons_of_mem _ hy))
    rw [List.length_erase_of_mem hx] at ih
    have := List.length_pos_of_mem hx
    rw [List.length_cons]
    omega
theorem dup_erase {α : Type} [DecidableEq α] : ∀ {ys : List α}, ¬ ys.Nodup → ∃ x ∈ ys, ∀ y ∈ ys, y ∈ ys.erase x
  | [], h => absurd List.nodup_nil h
  | a :: ys, h => by
    by_cases ha : a ∈ ys
    · refine ⟨a, List.mem_cons_self, fun y hy => ?_⟩
      rw [List.erase_cons_head]
      rcases List.mem_cons.mp hy with e | e
      · rw [e]; exact ha
      · exact e
    · have h2 : ¬ ys.Nodup := fun n => h (List.nodup_cons.mpr ⟨ha, n⟩)
      obtain ⟨x, hx, hk⟩ := dup_erase h2
      refine ⟨x, List.mem_cons_of_mem _ hx, fun y hy => ?_⟩
      have hax : a ≠ x := fun e => ha (e ▸ hx)
      rw [List.erase_cons_tail (by simpa using hax)]
      rcases List.mem_cons.mp hy with e | e
      · rw [e]; exact List.mem_cons_self
      · exact List.mem_cons_of_mem _ (hk y e)
/-- as many as there are unlike ones -/
theorem set_count {α : Type} [DecidableEq α] {ks ns : List α} (nd : ks.Nodup) (h : ∀ k, k ∈ ks ↔ k ∈ ns) : (ns.Nodup → ks.length = ns.length) ∧ (¬ ns.Nodup → ks.length < ns.length) := by
  refine ⟨fun n => Nat.le_antisymm (sub_len nd fun k hk => (h k).mp hk) (sub_len n fun k hk => (h k).mpr hk), fun n => ?_⟩
  obtain ⟨x, hx, hk⟩ := dup_erase n
  have := sub_len (ys := ns.erase x) nd fun k hk2 => hk k ((h k).mp hk2)
  rw [List.length_erase_of_mem hx] at this
  have := List.length_pos_of_mem hx
  omega
def tLenSetT (ta : TE) : TE := fun σ H Q => ta σ H fun x H1 => ∃ (a : Addr) (ns : List Int), x = .ref a ∧ H1 a = some (.tup (ns.map .int)) ∧ ns.length ≤ 1000 ∧ ∀ c : Nat, (ns.Nodup → c = ns.length) → (¬ ns.Nodup → c < ns.length) → Q (.int c) H1
theorem pe_lenSetT {X : Cx} {a : Expr} {ta : TE} {p p2 q pos : Pos} (hc : X.calm = true) (hg : Gl X "len") (hm : X.mg "len" = none) (hg2 : Gl X "set") (hm2 : X.mg "set" = none) (ha : PE X a ta)
    (na : starEach [a] X.env = (false, eval a X.env) :: starEach [] X.env := by rfl) : PE X (.Call (.Name "len" p) [.Call (.Name "set" p2) [a] [] q] [] pos) (tLenSetT ta) := by
  refine ⟨fun pins s σ H Q I h => ?_⟩
  refine Call_ (ld_blt I hg hm bb_len ?_)
  refine PyProof.Rows.callWith_builtin1 (PyProof.Rows.args_cons ?_ rfl) rfl rfl
  refine Call_ (ld_blt I hg2 hm2 bb_set ?_)
  refine PyProof.Rows.callWith_type1 (PyProof.Rows.args_cons (thn (ha.run pins s σ H _ I h) fun v s1 ⟨x, H1, I1, r1, q1⟩ => PyProof.Rows.args_nil ?_) na) na rfl
  obtain ⟨l, ns, rfl, hq, hl, q1⟩ := q1
  cases r1
  obtain ⟨its, r, pl, hz⟩ := I1.tuple (SqT.of hq)
  refine call_set_tupI ns (I1.ok.hd hc) pl (by simpa using RZ.intsAre_vals r) (by unfold scanBound; omega) fun h' tk c hS hcl hk => ?_
  refine PyProof.Rows.args_nil ?_
  obtain ⟨o, es, ep, t, ho, hex, hd, hg, hnd, hmem, hscan, hf, hn, _⟩ := hS
  have I2 : Inv X pins σ H1 { s1 with heap := h', toks := tk } := I1.kept hk
  have hcnt := set_count hnd (ns := ns) fun k => by
    rw [← hmem k]
    exact ⟨fun z => of_decide_eq_true z, fun z => decide_eq_true z⟩
  rw [List.length_map, Array.length_toList, hn] at hcnt
  exact call_len_set ho hex hd hf (by rw [hn]; omega) ⟨.int (c : Nat), H1, I2.tok _, ⟨_, by rw [hn]⟩, q1 c hcnt.1 hcnt.2⟩

/-! ### methods that may raise -/
def tMethE (C : Addr) (m : Str) (sp : Sp) (Ew : L2.St → XK) (ta : TE) (t : TA) : TE := fun σ H Q => ta σ H fun x H1 => ∃ a dx fs, x = .ref a ∧ H1 a = some (.ins C dx fs) ∧ fs.lookup m = none ∧ t σ H1 fun vs H2 => sp (x :: vs) H2 Q (Ew σ)
section
variable {X : Cx} {k : Nat} {C f : Addr} {m : Str} {ps : List Str} {sp : Sp} {fd : FuncData} {o e : Expr} {es : List Expr} {ta : TE} {t : TA} {apos pos : Pos} {W : WX}
theorem pe_methE {pl : Sem Bool} (he : PE X o ta) (c : Cls X.K C) (hm : Meth X.K C m f) (F : FnOk X.prog X.w X.K X.mg X.base (L2.CX X.prog X.w) k f fd ps sp) (hr : Room k X.A) (hb : Binds X.K fd ps []) (tk : Takes X W) (ha : PA X (e :: es) t)
    (hst : starEach (e :: es) X.env = (false, eval e X.env) :: starEach es X.env := by rfl) (hpl : (backTo pos (starEach es X.env)).any (·.1) = false := by rfl)
    (ht : eval (.Call (.Attribute o m apos) (e :: es) [] pos) X.env = (do
      let zv ← eval o X.env
      standAt apos.atName
      let (g, ahead) ← holding [zv] (getMethod zv m pl)
      callWith pos g ahead (backTo pos (starEach (e :: es) X.env)) (backToKw pos (keywordEach [] X.env))) := by rfl) :
    PE X (.Call (.Attribute o m apos) (e :: es) [] pos) (tMethE C m sp (WE W) ta t) := by
  refine ⟨fun pins s σ H Q I h => ?_⟩
  refine PySem.W.methodCall_KW (pl := pl) (thn (he.run pins s σ H _ I h) fun u s1 ⟨x, H1, I1, rx, a, dx, fs, ex, ea, l, q⟩ => ?_) ht
  subst ex
  obtain rfl : u = Value.ref a := rx
  refine getmeth_ok I1 ea c hm l ?_
  refine PySem.W.callWith_K (first := [Value.ref a]) (h₀ := X.base) I.ok.mod.kin hm.kp (thn (ha.run pos pins s1 σ H1 _ I1 q) fun us s2 ⟨vs, H2, I2, r, q2⟩ => ⟨I2.kIn, ?_⟩) hst hpl
  exact run_fnS (us := Value.ref a :: us) (vs := V.ref a :: vs) F hr hb (passAt tk σ) I2 (.cons rfl r) q2
end

/-! ### the end, with tables of code -/
def TabFor (K : PySem.W.Frag) (h : Heap) (x : Str) : Prop := ∀ c Pt, PySem.W.tabIn K x = some (c, Pt) → PySem.W.CodeHd h c Pt ∧ h.get? Pt = some { cls := .none, data := .fields #[] }
theorem walk_ofD {l : PySem.W.OpenLaw} {n k : Nat} {q : Program} {loose : List Str} {XP : (Str → Option Value) → Heap → Prop} {YP : World → Heap → Prop} {d : DefRec} {K : Params → PySem.W.Frag} {CX : World → CXT} {x : Str}
    (hn : l.most = some n) (hn2 : n ≤ sizeLine) (hdf : d.params.defaults = []) (hr : Room k callerA) (hY : ∀ (w : World) (h : Heap), YP w h → (K w.params).In h) {xs : List Str} (hxs : ∀ y ∈ xs, ((recsOf q).any fun e => e.name == y) = true)
    (F : ∀ (w : World) (mg : Str → Option Value) (fa : Addr) (h : Heap), (K w.params).In h → h.Ns mainGlobals mg → mg d.name = some (.ref fa) → (∀ y ∈ xs, TabFor (K w.params) h y) → LamX.LawAtS l w (K w.params) (CX w) k n x mg fa h)
    (hCX : ∀ (w : World) (H : Hp) (s : Shared) (e : Value) (s' : Shared), CX w [] H s (fun _ _ _ => False) e s' → False) :
    PySem.W.WalkO q loose XP YP l.row.toRowW d [] (fun f vs => PySem.call f vs) := by
  refine Att.attach_callB hn hdf fun w s₀ s₁ mg mb fa o pm cd doc a vs ns G Y ho hd hcd hmg hobj hints hlen hbits hg => ?_
  have KX := hY w _ Y
  have tabs : ∀ y ∈ xs, TabFor (K w.params) s₁.heap y := fun y hy c Pt ht => by
    obtain ⟨r, hr1, hr2⟩ := List.any_eq_true.mp (hxs y hy)
    cases hf : (recsOf q).find? (fun e => e.name == y) with
    | none =>
      have := List.find?_eq_none.mp hf r hr1
      exact absurd hr2 this
    | some d2 => exact PySem.W.tab_of G.T KX hf ht
  obtain ⟨fd, cs, sp, hT, nT, C, hb, hsp, hF⟩ := F w mg fa _ KX G.T.g hmg tabs
  exact LamX.law_callTs KX G.T.g G.T.b G.T.builtins G.T.nolimit hg hT nT C G.T.bmain hobj hints (Nat.le_trans hlen hn2) hr hF hb (fun H hH hS => hsp H a ns hlen hbits hH hS) fun H e s' => hCX w H s₁ e s'
end Lt

/-! Lt, part O: lists and tuples alike: enumerate, slices; defs whose code object is known. -/
namespace Lt
open PySem PySem.Spec PyProof.Rows L2

def SqA (K : PySem.W.Frag) (H : Hp) (a : Addr) (xs : List V) : Prop := SqL K H a xs ∨ SqT K H a xs
theorem SqA.le {K : PySem.W.Frag} {H H' : Hp} (p : Le H H') {a : Addr} {xs : List V} (h : SqA K H a xs) : SqA K H' a xs := h.imp p.sql p.sqt

/-! ### enumerate of a tuple -/
section
open AutoSeq1 (wpAny_loadPart')
theorem meets_enum_tup (tp : Addr) (items : Array Value) : Meets (Builtin.«enumerate.__new__» ⟨[.type "enumerate", .ref tp], []⟩) (fun _ R s => s.heap.IsTuple tp items ∧
      R (.ok (.ret (.ref (s.heap.push { cls := .type "tuple_iterator", data := .fields #[.ref tp, .int 0 0] }).objs.size)))
        { s with heap := (s.heap.push { cls := .type "tuple_iterator", data := .fields #[.ref tp, .int 0 0] }).push { cls := .type "enumerate", data := .fields #[.none, .bool false, .ref s.heap.objs.size, rawInt 0, .none, .none] } }) :=
  .of_wp fun prog w A R s ⟨htp, h⟩ => by
    obtain ⟨hp, g, d, tk, os⟩ := s
    have hsub := sub_enumerate
    obtain ⟨ot, hl, hc, nn, hdt⟩ := id htp
    wp_walk
    refine wpAny_stack_any fun st => wpAny_pure ?_
    split
    · rename_i c _ _ _ _ _
      cases (c == Value.type "enumerate")
      · wp_walk using wpAny_pyIter_tuple htp
        exact ⟨_, rfl, h⟩
      · wp_walk using wpAny_pyIter_tuple htp
        exact ⟨_, rfl, h⟩
    · wp_walk using wpAny_pyIter_tuple htp
      exact ⟨_, rfl, h⟩
end
theorem call_enum_tup {prog : Program} {w : World} {A : Around} {E : Value → Shared → Prop} {s : Shared} {tp : Addr} {items : Array Value} {Q : Value → Shared → Prop} (hT : s.heap.IsTuple tp items)
    (h : ∀ h', IsEnum h' (s.heap.objs.size + 1) s.heap.objs.size 0 .none → h'.IsTupleIter s.heap.objs.size tp 0 → h'.objs.size = s.heap.objs.size + 2 → (∀ b o, s.heap.get? b = some o → h'.get? b = some o) → Q (.ref (s.heap.objs.size + 1)) { s with heap := h' }) :
    wpAny (model prog w) A (call (.type "enumerate") [.ref tp]) Q E s := by
  refine callType_new F.called_enumerate (by decide) (F.typeCall_enumerate_1 _) (F.newCall_enumerate_1 _) (fun obj => F.args_object_init_2 obj _) F.entry_enumerate_new (meets_enum_tup tp items) ⟨hT, ?_⟩
  have hz : (s.heap.push { cls := .type "tuple_iterator", data := .fields #[.ref tp, .int 0 0] }).objs.size = s.heap.objs.size + 1 := Heap.size_push ..
  show _ ∧ _
  rw [hz]
  have he : IsEnum ((s.heap.push { cls := .type "tuple_iterator", data := .fields #[.ref tp, .int 0 0] }).push
      { cls := .type "enumerate", data := .fields #[.none, .bool false, .ref s.heap.objs.size, rawInt 0, .none, .none] }) (s.heap.objs.size + 1) s.heap.objs.size 0 .none := by
    have q := Heap.get?_push_size (s.heap.push { cls := .type "tuple_iterator", data := .fields #[.ref tp, .int 0 0] })
      (o := { cls := .type "enumerate", data := .fields #[.none, .bool false, .ref s.heap.objs.size, rawInt 0, .none, .none] }) rfl
    rw [hz] at q
    exact q
  exact ⟨⟨_, he, rfl⟩, h _ he ⟨_, Heap.get?_push_of_some _ (Heap.get?_push_size _ rfl), rfl, rfl⟩ (by rw [Heap.size_push, hz]) fun b o x => Heap.get?_push_of_some _ (Heap.get?_push_of_some _ x)⟩
def YEn (xs : List V) : Nat → Hp → V → Hp → Prop := fun i H v H' => ∃ T x, v = .ref T ∧ H T = none ∧ H' = L2.upd H T (.tup [.int (i : Nat), x]) ∧ xs[i]? = some x
/-- the tuple at a, its items with their places -/
def IteT (K : PySem.W.Frag) (a : Addr) (xs : List V) : It := ⟨fun i H => SqT K H a xs ∧ i < xs.length, YEn xs, fun i H => SqT K H a xs ∧ xs.length ≤ i⟩
theorem turn_enumT {P : Program} {w : World} {K : PySem.W.Frag} {elts : List Expr} {kk : Nat} {tpos : Pos} {xs : List V} (a e it : Addr) (hea : e ≠ a) (hia : a ≠ it) :
    Turn P w K (.Tuple elts kk tpos) (IteT K a xs) [e, it] e (fun i h => (∃ old, IsEnum h e it ((i : Nat) : Int) old) ∧ h.IsTupleIter it a i ∧ e ≠ it) where
  mem := by simp
  obj := fun i h st b hb => by
    obtain ⟨⟨old, he⟩, ⟨o, ho, hc, hd⟩, _⟩ := st
    have e' : b = e ∨ b = it := by simpa using hb
    rcases e' with z | z
    · rw [z]; exact ⟨_, he, fun v q => nomatch q⟩
    · rw [z]; exact ⟨o, ho, fun v q => by rw [hd] at q; cases q⟩
  keep := fun i h h' st k => let ⟨⟨old, he⟩, hi, hne⟩ := st; ⟨⟨old, k e (by simp) _ he⟩, hi.at fun o q => k it (by simp) o q, hne⟩
  item := by
    intro X hP hw hK hc i pins s σ H E I hf st hg
    subst hP hw hK
    obtain ⟨⟨old, he⟩, hit, hne⟩ := st
    obtain ⟨hq, hi⟩ := hg
    obtain ⟨its, rv, p, hz⟩ := I.tuple hq
    obtain ⟨u0, hu, ru⟩ := rv.get (List.getElem?_eq_getElem hi)
    have hel : e < s.heap.objs.size := Heap.lt_size he
    have hil : it < s.heap.objs.size := by obtain ⟨_, q, _⟩ := hit; exact Heap.lt_size q
    have hef : e ∉ [it, a] := fun z => by
      rcases List.mem_cons.mp z with z | z
      · exact hne z
      · exact hea (List.mem_singleton.mp z)
    have hlt : i < its.toArray.size := by
      rw [List.size_toArray, ← rv.length]
      exact hi
    refine wpAny_pyNext_enum_itemD (Draws.tuple (prog := X.prog) (w := X.w) (A := X.A.in1) (I.ok.hd hc) it a hia its.toArray) he ⟨hit, p⟩ hlt hne hef fun u h' tk hPu ho hst' hT hsz hk => ?_
    have hPu : its.toArray[i]? = some u := hPu
    have eu : u0 = u := by
      rw [show its.toArray[i]? = its[i]? by simp, hu] at hPu
      exact Option.some.inj hPu
    subst eu
    refine ⟨_, rfl, wpAny_letOwnedTupleGo_enum (s := { s with heap := h', toks := tk + 1 }) ho fun h'' he' sb => ?_⟩
    have hT2 : h''.get? s.heap.objs.size = some { cls := .type "tuple", data := .seq #[.int i tk, u0] } := (sb.2 _ (Nat.ne_of_gt hel)).trans hT
    have new : ObjOk X.prog X.w (L2.upd H s.heap.objs.size (.tup [.int (i : Nat), xs[i]])) h'' s.heap.objs.size (.tup [.int (i : Nat), xs[i]]) :=
      ⟨by show 2 ≤ sizeLine; decide, [.int i tk, u0], .cons ⟨_, rfl⟩ (.cons ru .nil), ⟨_, hT2, rfl, _, rfl⟩⟩
    have I1 : Inv X pins σ (L2.upd H s.heap.objs.size (.tup [.int (i : Nat), xs[i]])) { s with heap := h'', toks := tk + 1 } :=
      I.turnedNew (ch := [e, it]) (fun b ob hb q => (sb.2 b (fun z => hb (by simp [z]))).trans (hk b ob (fun z => hb (by simp [z])) (fun z => hb (by simp [z])) q)) hf (Nat.le_refl _) new
    refine ⟨.ref s.heap.objs.size, _, I1, rfl, ⟨_, xs[i], rfl, I.hok.fresh (Nat.le_refl _), rfl, List.getElem?_eq_getElem hi⟩, ⟨⟨u0, ?_⟩, hst'.1.at fun o q => (sb.2 it (Ne.symm hne)).trans q, hne⟩, fun b hb => ?_⟩
    · have e1 : ((i + 1 : Nat) : Int) = (i : Int) + 1 := by omega
      rw [e1]; exact he'
    · have hb' : b < s.heap.objs.size := by
        have e' : b = e ∨ b = it := by simpa using hb
        rcases e' with z | z
        · rw [z]; exact hel
        · rw [z]; exact hil
      rw [upd_ne (Nat.ne_of_lt hb')]
      exact (hf b hb).1
  done := by
    intro X hP hw hK hc i pins s σ H E I hf st hg
    subst hP hw hK
    obtain ⟨⟨old, he⟩, hit, hne⟩ := st
    obtain ⟨hq, hx⟩ := hg
    obtain ⟨its, rv, p, hz⟩ := I.tuple hq
    obtain ⟨f0, f1, f2, f3, f4, f5⟩ := hf it (by simp)
    have hle : its.toArray.size ≤ i := by
      rw [List.size_toArray, ← rv.length]
      exact hx
    have hTy : s.TypeIs (.ref e) "enumerate" := ⟨_, he, rfl⟩
    unfold pyNext
    refine wpAny_bind (wpAny_attempt (wpAny_callSpecial?_slot (name := Str.ofString "__next__") hTy F.slot_enumerate_next (wpAny_call_entry F.slot_enumerate_next hTy F.entry_enumerate_next ?_ (F.args_enumerate_next_1 _))))
    show wpAny _ _ (field (.ref e) 2 >>= _) _ _ _
    refine wpAny_bind (wpAny_field he rfl (x := .ref it) rfl ?_)
    refine wpAny_bind (wpAny_nextOf_tuple_end (I.ok.hd hc) hit p (Array.getElem?_eq_none hle) fun h' x he' hx' => ?_)
    obtain ⟨o, ho, hc2⟩ := hx'
    refine wpAny_bind (wpAny_isInstance (T := "StopIteration") (b := true) ⟨o, ho, hc2⟩ isSubtype_stop ?_)
    exact wpAny_pure ⟨rfl, I.turned (t' := s.toks) (fun b o hb q => he' b o hb q) f0 f1 f3 f4 f5⟩
  self := fun A i s Q E st h => let ⟨⟨_, he⟩, _⟩ := st; wpAny_pyIter_enum he h
/-- enumerate(e), e a list or a tuple that stays -/
def iEnumA (K : PySem.W.Frag) (ta : TA) : TI := fun σ H R => ta σ H fun vs H1 => ∃ a xs, vs = [.ref a] ∧ SqA K H1 a xs ∧ ∀ (J : It) (G : Hp → Prop), (∀ H' H'', Le H' H'' → G H' → G H'') → G H1 → Walk J xs.length G (YEn xs) → R J H1
theorem pi_enumA {X : Cx} {K : PySem.W.Frag} {e : Expr} {ta : TA} {p pos tpos : Pos} {elts : List Expr} {kk : Nat} (hK : X.K = K) (hg : Gl X "enumerate") (hm : X.mg "enumerate" = none) (ha : PA X [e] ta) (hs : starEach [e] X.env = [(false, eval e X.env)] := by rfl) :
    PI X (.Tuple elts kk tpos) (.Call (.Name "enumerate" p) [e] [] pos) (iEnumA K ta) := by
  subst hK
  refine ⟨fun pins s σ H R I h => ?_⟩
  refine Call_ (ld_blt I hg hm boot_enumerate (PyProof.Rows.callWith_type1 (thn (ha.run pos pins s σ H _ I h) fun us s1 ⟨vs, H1, I1, r1, q1⟩ => ?_) hs rfl))
  obtain ⟨a, xs, ex, hq, q⟩ := q1
  subst ex
  cases r1 with
  | cons r rr =>
    cases rr
    cases r
    have hge : ∀ b ∈ [s1.heap.objs.size + 1, s1.heap.objs.size], s1.heap.objs.size ≤ b := fun b hb => by
      have e' : b = s1.heap.objs.size + 1 ∨ b = s1.heap.objs.size := by simpa using hb
      rcases e' with z | z
      · rw [z]; exact Nat.le_add_right _ _
      · rw [z]; exact Nat.le_refl _
    rcases hq with hq | hq
    · obtain ⟨its, rv, p', hz⟩ := I1.list hq
      refine call_enumerate_list p'.isList fun h' he hit hsz hk => wpAny_pyIter_enum he ?_
      have I2 : Inv X pins σ H1 { s1 with heap := h' } := I1.kept (t' := s1.toks) hk
      refine ⟨s1.heap.objs.size + 1, [s1.heap.objs.size + 1, s1.heap.objs.size], _, _, H1, rfl, I2, turn_enum a (s1.heap.objs.size + 1) s1.heap.objs.size, ⟨⟨.none, he⟩, hit, Nat.succ_ne_self _⟩, fun b hb => I1.fpOk (hge b hb) (I1.hok.fresh (hge b hb)), ?_⟩
      exact q _ (fun H => SqL X.K H a xs) (fun H' H'' l g => l.sql g) hq ⟨fun i H hi g => ⟨xs, xs[i], g, List.getElem?_eq_getElem hi⟩, fun H g => ⟨xs, g, Nat.le_refl _⟩, fun i H v H' hi g y => by
        obtain ⟨T, x, e1, e2, e3, e4⟩ := y
        exact ⟨T, x, e1, e2, e3, e4 xs g⟩⟩
    · obtain ⟨its, rv, p', hz⟩ := I1.tuple hq
      have hal : a < s1.heap.objs.size := let ⟨_, e, _⟩ := p'; Heap.lt_size e
      refine call_enum_tup p' fun h' he hit hsz hk => wpAny_pyIter_enum he ?_
      have I2 : Inv X pins σ H1 { s1 with heap := h' } := I1.kept (t' := s1.toks) hk
      refine ⟨s1.heap.objs.size + 1, [s1.heap.objs.size + 1, s1.heap.objs.size], _, _, H1, rfl, I2, turn_enumT (xs := xs) a (s1.heap.objs.size + 1) s1.heap.objs.size (Nat.ne_of_gt (Nat.lt_succ_of_lt hal)) (Nat.ne_of_lt hal), ⟨⟨.none, he⟩, hit, Nat.succ_ne_self _⟩, fun b hb => I1.fpOk (hge b hb) (I1.hok.fresh (hge b hb)), ?_⟩
      exact q _ (fun H => SqT X.K H a xs) (fun H' H'' l g => l.sqt g) hq ⟨fun i H hi g => ⟨g, hi⟩, fun H g => ⟨g, Nat.le_refl _⟩, fun i H v H' hi g y => y⟩
/-- xs[:i], xs a list or a tuple -/
def rSlLT (K : PySem.W.Frag) : V → Option Int → Option Int → Hp → VK → Prop := fun x lo hi H Q => ∃ a xs, x = .ref a ∧ SqA K H a xs ∧ ∀ p H', Le H H' → SqA K H' p (cutV xs lo hi) → Q (.ref p) H'
theorem sl_LT {X : Cx} {K : PySem.W.Frag} (e : X.K = K) : SlR X (rSlLT K) := by
  subst e
  intro pins s σ H x v vl vu lo hi sl Q I rx hs pl pu h
  obtain ⟨a, xs, rfl, hx, q⟩ := h
  rcases hx with hx | hx
  · exact sl_list pins s σ H _ v vl vu lo hi sl Q I rx hs pl pu ⟨a, xs, rfl, hx, fun p hp => q p _ (.new hp) (.inl (.of upd_same))⟩
  · refine sl_tupA pins s σ H _ v vl vu lo hi sl Q I rx hs pl pu ⟨a, xs, rfl, hx, fun hw => q a H (.refl H) (.inr ?_), fun _ p hp => q p _ (.new hp) (.inr (.of upd_same))⟩
    have e : cutV xs lo hi = xs := by
      unfold cutV
      rw [hw.1, hw.2, List.drop_zero, Nat.sub_zero, List.take_length]
    rw [e]
    exact hx

/-! ### defs whose code object is known -/
section
variable {P : Program} {w : World} {K : PySem.W.Frag} {mg : Str → Option Value} {base : Heap}
theorem fun_okC {x qual : Str} {st : Stmt} {f : Addr} {fd : FuncData} {N ps : List Str} {k : Nat} {sp : Sp} {c : Addr} (F : Fun K x qual st f fd) (hc : fd.code = .ref c) (S : FnScope N ps (defScope st)) (len : ∀ vs H Q E, sp vs H Q E → vs.length = ps.length)
    (hbody : ∀ (A : Around) (outer : List Env) (s : Shared) (H : Hp) (vs : List V) (Q : VK) (E : XK), Room k (A.deeper (envOfC qual (defScope st) s.heap.objs.size f (.ref c))) → sp vs H Q E →
      ∃ t, PSs (cxOf CX0 P w K mg base N qual (defScope st) f (.ref c) A outer s H E).nox (defBody st) t ∧ t { nx := fun _ H' => Q .non H', rt := Q } (start N vs) H) : FnOk P w K mg base CX0 (k + 1) f fd ps sp := by
  obtain ⟨oc, od, kV, doc, pm, an, cdv, ct, osl, rfl, lk, hcd⟩ := F.ex
  have e : cdv = .ref c := hc
  subst e
  refine fn_of lk hcd S len fun A outer s H vs Q E hr hsp => ?_
  obtain ⟨t, h, q⟩ := hbody A outer s H vs Q E hr hsp
  exact ⟨t, h.nox, q⟩
end
end Lt

/-! Lt, part P: len(set(l)) of a list of signs, None among them. -/
namespace Lt
open PySem PySem.Spec PyProof.Rows L2

/-! ### the unlike ones of a list -/
def dst {α : Type} [DecidableEq α] (l : List α) : List α := l.foldl (fun a x => if x ∈ a then a else a ++ [x]) []
theorem dst_snoc {α : Type} [DecidableEq α] (l : List α) (x : α) : dst (l ++ [x]) = if x ∈ dst l then dst l else dst l ++ [x] := by
  unfold dst
  rw [List.foldl_append]
  rfl
theorem dst_mem {α : Type} [DecidableEq α] (l : List α) : ∀ k, k ∈ dst l ↔ k ∈ l := by
  suffices h : ∀ r : List α, ∀ k, k ∈ dst r.reverse ↔ k ∈ r.reverse by simpa using h l.reverse
  intro r
  induction r with
  | nil => intro k; exact Iff.rfl
  | cons x r ih =>
    intro k
    rw [List.reverse_cons, dst_snoc, List.mem_append, List.mem_singleton, ← ih k]
    by_cases h : x ∈ dst r.reverse
    · rw [if_pos h]
      exact ⟨.inl, fun z => z.elim id (fun e => e ▸ h)⟩
    · rw [if_neg h, List.mem_append, List.mem_singleton]
theorem dst_nodup {α : Type} [DecidableEq α] (l : List α) : (dst l).Nodup := by
  suffices h : ∀ r : List α, (dst r.reverse).Nodup by simpa using h l.reverse
  intro r
  induction r with
  | nil => exact List.nodup_nil
  | cons x r ih =>
    rw [List.reverse_cons, dst_snoc]
    by_cases h : x ∈ dst r.reverse
    · rw [if_pos h]; exact ih
    · rw [if_neg h, List.nodup_append]
      exact ⟨ih, by simp, fun a ha b hb z => by rw [List.mem_singleton.mp hb] at z; exact h (z ▸ ha)⟩
theorem dst_one {α : Type} [DecidableEq α] {l : List α} (h : ∀ a ∈ l, ∀ b ∈ l, a = b) : (dst l).length ≤ 1 := by
  have nd := dst_nodup l
  have hm := dst_mem l
  generalize dst l = r at nd hm
  match r, nd, hm with
  | [], _, _ => exact Nat.zero_le _
  | [_], _, _ => exact Nat.le_refl _
  | a :: b :: r, nd, hm => exact absurd (h a ((hm a).mp (by simp)) b ((hm b).mp (by simp))) (fun e => by simp [e] at nd)
theorem dst_two {α : Type} [DecidableEq α] {l : List α} {a b : α} (ha : a ∈ l) (hb : b ∈ l) (h : a ≠ b) : 1 < (dst l).length :=
  sub_len (xs := [a, b]) (ys := dst l) (by simp [h]) (fun x hx => by
    rcases List.mem_cons.mp hx with e | e
    · rw [e]; exact (dst_mem l a).mpr ha
    · rw [List.mem_singleton.mp e]; exact (dst_mem l b).mpr hb)
theorem dst_len {α : Type} [DecidableEq α] (l : List α) : (dst l).length ≤ l.length := sub_len (dst_nodup l) fun k hk => (dst_mem l k).mp hk

theorem lf_is {P : Program} {w : World} {o : Option Str} {u : Value} (r : RelV (sg o) u) : (leafKind P w).is (lf o) u = true ∧ u.scannable = true := by
  cases o with
  | none =>
    cases r
    exact ⟨rfl, rfl⟩
  | some x =>
    obtain ⟨t, rfl⟩ := r
    exact ⟨by show (x == x) = true; simp, rfl⟩
theorem lf_mem {o : Option Str} {l : List (Option Str)} : lf o ∈ l.map lf ↔ o ∈ l :=
  ⟨fun h => let ⟨_, h1, h2⟩ := List.mem_map.mp h; lf_inj h2 ▸ h1, fun h => List.mem_map.mpr ⟨o, h, rfl⟩⟩

/-- at d stands the set of os -/
def SgSet (P : Program) (w : World) (hp : Heap) (d : Addr) (os : List (Option Str)) : Prop := hp.SetOf (leafKind P w) d (fun k => decide (k ∈ os.map lf)) (dst os).length
theorem SgSet.kept {P : Program} {w : World} {hp hp' : Heap} {d : Addr} {os : List (Option Str)} (x : SgSet P w hp d os) (k : ∀ o, hp.get? d = some o → hp'.get? d = some o) : SgSet P w hp' d os :=
  let ⟨o, es, ep, t, ho, rest⟩ := x; ⟨o, es, ep, t, k o ho, rest⟩

section
variable {P : Program} {w : World} {A : Around} {E : Value → Shared → Prop}
theorem fill_sg {it : Addr} {fr mv : List Addr} {GG : Array GenState → Array GenState → Prop} {n : Nat} {Pv : Nat → Value → Prop} {At0 : Nat → Shared → Prop} {R : Result → Shared → Prop} (W : WalksS P w A.in1 it fr mv GG n Pv At0) {d : Addr} (hd : d ∉ fr)
    {os : List (Option Str)} (hn : n = os.length) (hb : os.length ≤ 1000) (hv : ∀ i v, Pv i v → ∃ o, os[i]? = some o ∧ RelV (sg o) v) (left : Nat) :
    ∀ (i : Nat) (u : Shared), n - i = left → i ≤ n → At0 i u → SgSet P w u.heap d (os.take i) → (∀ u', Moved (d :: mv) GG u u' → SgSet P w u'.heap d os → R (.ok (.ret .none)) u') →
      codeAny (model P w) A (.builtin "set.update.loop" ⟨[.ref d, .ref it], []⟩) R u := by
  have hdm : d ∉ mv := fun z => hd (W.sub _ z)
  have wide : ∀ b ∈ mv, b ∈ d :: mv := fun _ z => List.mem_cons_of_mem _ z
  induction left with
  | zero =>
    intro i u hl hi hat hs q
    have z : i = n := Nat.le_antisymm hi (by omega)
    refine codeAny_builtin PyProof.Rows.F.entry_set_update_loop ?_
    rw [Around.under_plainId PyProof.Rows.F.plain_set_update_loop]
    refine (show wpAny _ A.in1 (pyNext (.ref it) >>= _) _ _ u from wpAny_bind (W.done u _ _ (z ▸ hat) fun u' mv' => ?_))
    have all : os.take i = os := List.take_of_length_le (by omega)
    rw [all] at hs
    exact (show wpAny _ A.in1 (ret Value.none) _ _ u' from wpAny_pure (q u' (mv'.mono wide) (hs.kept fun o e => mv'.heap d o hdm e)))
  | succ left ih =>
    intro i u hl hi hat hs q
    have lt : i < n := by omega
    refine codeAny_builtin PyProof.Rows.F.entry_set_update_loop ?_
    rw [Around.under_plainId PyProof.Rows.F.plain_set_update_loop]
    refine (show wpAny _ A.in1 (pyNext (.ref it) >>= _) _ _ u from wpAny_bind (W.item i u _ _ lt hat fun v u' pv hat' mv' => ?_))
    obtain ⟨o, ho, rv⟩ := hv i v pv
    obtain ⟨is1, sc1⟩ := lf_is (P := P) (w := w) rv
    have hs' := hs.kept fun o e => mv'.heap d o hdm e
    have small : (dst (os.take i)).length + 1 < scanBound := by
      have b1 := dst_len (os.take i)
      rw [List.length_take] at b1
      unfold scanBound
      omega
    refine (show wpAny _ A.in1 (holding [v] (setAdd d v) >>= _) _ _ u' from wpAny_bind (wpAny_holding ?_))
    unfold setAdd
    refine wpAny_holding (wpAny_bind ((leafKind P w).pyHash is1 ?_))
    refine wpAny_setAddHashed_of (s := { u' with toks := u'.toks + 1 }) is1 sc1 hs' small fun hp sb grown => ?_
    have tk : os.take (i + 1) = os.take i ++ [o] := by rw [List.take_add_one, ho]; rfl
    have next : SgSet P w hp d (os.take (i + 1)) := by
      rw [tk]
      refine SetOf_congr grown (fun k => ?_) ?_
      · rw [List.map_append, ← Bool.decide_or]
        exact decide_eq_decide.mpr (by rw [List.mem_append]; simp)
      · rw [dst_snoc]
        by_cases z : o ∈ os.take i
        · rw [if_pos (decide_eq_true (lf_mem.mpr z)), if_pos ((dst_mem _ _).mpr z)]
        · rw [if_neg (fun y => z (lf_mem.mp (of_decide_eq_true y))), if_neg (fun y => z ((dst_mem _ _).mp y)), List.length_append]
          rfl
    have keep : ∀ b, b ≠ d → ∀ o, u'.heap.get? b = some o → hp.get? b = some o := fun b z o e => by rw [sb.2 b z]; exact e
    refine wpAny_pure ⟨plainId_quiet PyProof.Rows.F.plain_set_update_loop _, ih (i + 1) _ (by omega) lt (W.frame _ u' _ _ hat' (Nat.le_succ _) fun b z o e => keep b (fun y => hd (y ▸ z)) o e) next fun u2 mv2 fin => q u2 (Moved.trans W.gtrans ((mv'.mono wide).then_heap (Nat.le_succ _) fun b o z e => keep b (fun y => z (y ▸ List.mem_cons_self)) o e) mv2) fin⟩

theorem call_set_sg {l : Addr} {its : List Value} {os : List (Option Str)} {t : Shared} {Q : Value → Shared → Prop} (calm : A.handled = none) (hl : t.heap.IsList l its.toArray) (rv : Vals (os.map sg) its) (hb : os.length ≤ 1000)
    (q : ∀ (hp : Heap) (tk : Nat), SgSet P w hp t.heap.objs.size os → (∀ b o, b < t.heap.objs.size → t.heap.get? b = some o → hp.get? b = some o) → Q (.ref t.heap.objs.size) { t with heap := hp, toks := tk }) :
    wpAny (model P w) A (call (.type "set") [.ref l]) Q E t := by
  have made := PySem.F.called_set.made
  obtain ⟨c0, r0, mro0⟩ := PySem.F.called_set.mro
  have heir := PySem.F.called_set.sub
  refine wpAny_call (codeAny_of_tree (show wpAny _ _ (callAny (.type "set") _) _ _ _ from wpAny_pure ⟨Code.quiet_builtin _ (by decide +kernel), ?_⟩))
  refine codeAny_builtin PySem.F.entry_type_call ?_
  rw [Around.under_plain (weight_type_call_type "set" [.ref l] []) rfl]
  have can := PySem.F.called_set.canCreate
  have checked := PySem.F.typeCall_set_1 (.ref l)
  have plain1 := PySem.F.called_set.notType
  repeat (any_goals (first | assumption | wp_step))
  refine codeAny_mono (code_set_new_1 (.ref l) (E := E) (Q₁ := fun x u => x = .ref t.heap.objs.size ∧ ∃ g : Bool, u = { t with heap := t.heap.push { cls := .type "set", dict := none, data := .set #[] 0 (.fresh 0 0 g) } }) fun g => ⟨rfl, g, rfl⟩) fun out u made1 => ?_
  match out, made1 with
  | .error _, made1 => exact made1
  | .ok (.ret x), ⟨ex, g, eu⟩ =>
    subst ex eu
    have fresh1 : (t.heap.push { cls := .type "set", dict := none, data := .set #[] 0 (.fresh 0 0 g) }).get? t.heap.objs.size = some { cls := .type "set", dict := none, data := .set #[] 0 (.fresh 0 0 g) } := Heap.get?_push_size _ rfl
    have isSet : Shared.TypeIs { t with heap := t.heap.push { cls := .type "set", dict := none, data := .set #[] 0 (.fresh 0 0 g) } } (.ref t.heap.objs.size) "set" := ⟨_, fresh1, rfl⟩
    have bound1 := PySem.F.called_set.init.bind (.ref t.heap.objs.size)
    have found1 := PySem.F.called_set.init.lookup
    repeat (any_goals (first | assumption | wp_step))
    refine codeAny_mono (codeAny_call_builtin (R := wants (fun r u => r = .none ∧ ∃ hp tk, u = { t with heap := hp, toks := tk } ∧ SgSet P w hp t.heap.objs.size os ∧ ∀ b o, b < t.heap.objs.size → t.heap.get? b = some o → hp.get? b = some o) E)
      PySem.F.called_set.init.plain PySem.F.entry_set_init (check_set_init_1 isSet ?_)) fun out2 u2 done2 => ?_
    · obtain ⟨⟨cls, dd, data, sl⟩, ho, hc, nl, hdt⟩ := hl
      simp only at hc hdt
      subst hdt hc
      have no1 := PySem.F.sub_list_frozenset
      have there := Heap.get?_push_of_some { cls := .type "set", dict := none, data := .set #[] 0 (.fresh 0 0 g) } ho
      have no2 := PySem.F.sub_list_set
      have isL : (t.heap.push { cls := .type "set", dict := none, data := .set #[] 0 (.fresh 0 0 g) }).IsList l its.toArray := ⟨_, there, rfl, nl, rfl⟩
      have notD : (Value.type "list" == Value.type "dict") = false := by decide
      unfold Builtin.«set.__init__» noKeywords
      unfold Builtin.Frozenset.updateFrom
      generalize walk0 : pyIter = PI
      wp_walk
      subst walk0
      refine wpAny_pyIter_list isL (wpAny_bind (wpAny_runValue ?_))
      have lt1 : l < t.heap.objs.size := Heap.lt_size ho
      have calm3 : A.in1.in1.in1.handled = none := by simp [calm]
      have sz1 : (t.heap.push { cls := .type "set", dict := none, data := .set #[] 0 (.fresh 0 0 g) }).objs.size = t.heap.objs.size + 1 := Heap.size_push _ _
      have ne1 : l ≠ (t.heap.push { cls := .type "set", dict := none, data := .set #[] 0 (.fresh 0 0 g) }).objs.size := Nat.ne_of_lt (by rw [sz1]; exact Nat.lt_succ_of_lt lt1)
      have off : t.heap.objs.size ∉ [(t.heap.push { cls := .type "set", dict := none, data := .set #[] 0 (.fresh 0 0 g) }).objs.size, l] := by
        intro z
        rcases List.mem_cons.mp z with z | z
        · rw [sz1] at z
          exact absurd z (Nat.ne_of_lt (Nat.lt_succ_self _))
        · exact absurd (List.mem_singleton.mp z) (Nat.ne_of_gt lt1)
      have lenE : its.toArray.size = os.length := by
        have := rv.length
        rw [List.length_map] at this
        rw [List.size_toArray, ← this]
      refine fill_sg ((Walks.list calm3 _ l ne1 its.toArray).toS) off lenE hb (fun i v hv => ?_) _ 0 _ rfl (Nat.zero_le _) ⟨⟨_, Heap.get?_push_size _ rfl, rfl, rfl⟩, isL.push _⟩ ?_ fun u' mv fin => ?_
      · have hv : its[i]? = some v := by simpa using hv
        have hi : i < os.length := by
          rw [← lenE, List.size_toArray]
          exact (List.getElem?_eq_some_iff.mp hv).1
        obtain ⟨y, hy, ry⟩ := rv.get (i := i) (x := sg os[i]) (by rw [List.getElem?_map, List.getElem?_eq_getElem hi]; rfl)
        rw [hv] at hy
        obtain rfl := Option.some.inj hy
        exact ⟨_, List.getElem?_eq_getElem hi, ry⟩
      · rw [List.take_zero]
        exact SetOf_congr ((setObjOf_fresh (knd := leafKind P w) g).setOf (Heap.get?_push_of_some _ fresh1) (by unfold scanBound; omega)) (fun _ => rfl) rfl
      · obtain ⟨hp, gg, dr, tk, oo⟩ := u'
        obtain rfl : gg = t.gens := mv.gens
        obtain rfl : dr = t.drawn := mv.drawn
        obtain rfl : oo = t.os := mv.os
        refine (show wpAny _ _ _ _ _ _ from wpAny_pure (show wpAny _ _ (ret Value.none) _ _ _ from wpAny_pure ⟨rfl, hp, tk, rfl, fin, fun b o lt2 e => mv.heap b o (fun z => ?_) (Heap.get?_push_of_some _ (Heap.get?_push_of_some _ e))⟩))
        rcases List.mem_cons.mp z with z | z
        · exact absurd z (Nat.ne_of_lt lt2)
        · have z := List.mem_singleton.mp z
          rw [sz1] at z
          exact absurd z (Nat.ne_of_lt (Nat.lt_succ_of_lt lt2))
    · match out2, done2 with
      | .error _, done2 => exact done2
      | .ok (.ret r), ⟨er, hp, tk, eu, fin, keep⟩ =>
        subst er eu
        repeat (any_goals (first | assumption | wp_step))
        exact q _ _ fin keep
      | .ok .next, z => exact z.elim
  | .ok .next, z => exact z.elim
end

def tLenSetS (K : PySem.W.Frag) (ta : TE) : TE := fun σ H Q => ta σ H fun x H1 => ∃ (a : Addr) (os : List (Option Str)), x = .ref a ∧ SqL K H1 a (os.map sg) ∧ os.length ≤ 1000 ∧ ∀ c : Nat, ((∀ a ∈ os, ∀ b ∈ os, a = b) → c ≤ 1) → (∀ a ∈ os, ∀ b ∈ os, a ≠ b → 1 < c) → Q (.int c) H1
theorem pe_lenSetS {X : Cx} {K : PySem.W.Frag} {a : Expr} {ta : TE} {p p2 q pos : Pos} (hK : X.K = K) (hc : X.calm = true) (hg : Gl X "len") (hm : X.mg "len" = none) (hg2 : Gl X "set") (hm2 : X.mg "set" = none) (ha : PE X a ta)
    (na : starEach [a] X.env = (false, eval a X.env) :: starEach [] X.env := by rfl) : PE X (.Call (.Name "len" p) [.Call (.Name "set" p2) [a] [] q] [] pos) (tLenSetS K ta) := by
  subst hK
  refine ⟨fun pins s σ H Q I h => ?_⟩
  refine Call_ (ld_blt I hg hm bb_len (PyProof.Rows.callWith_builtin1 (PyProof.Rows.args_cons ?_ rfl) rfl rfl))
  refine Call_ (ld_blt I hg2 hm2 bb_set (PyProof.Rows.callWith_type1 (PyProof.Rows.args_cons (thn (ha.run pins s σ H _ I h) fun v s1 ⟨x, H1, I1, r1, q1⟩ => PyProof.Rows.args_nil ?_) na) na rfl))
  obtain ⟨l, os, rfl, hq, hl, q1⟩ := q1
  cases r1
  obtain ⟨its, rv, il, _⟩ := I1.list hq
  refine call_set_sg (I1.ok.hd hc) il.isList rv hl fun hp tk st keep => PyProof.Rows.args_nil ?_
  obtain ⟨o, es, ep, t, ho, hex, hd, _, _, hbd, hf, hn⟩ := st
  have I2 : Inv X pins σ H1 { s1 with heap := hp, toks := tk } := I1.kept fun b o e => keep b o (Heap.lt_size e) e
  have h63 := dst_len os
  exact call_len_set ho hex hd hf (by rw [hn]; omega) ⟨.int ((dst os).length : Nat), H1, I2.tok _, ⟨_, by rw [hn]⟩, q1 _ dst_one fun a ha b hb z => dst_two ha hb z⟩
theorem takes_no {X : Cx} : Takes X (fun _ _ _ _ => False) := fun u s' h => by
  obtain ⟨_, _, _, _, _, _, _, _, _, _, _, _, _, _, _, _, z⟩ := h
  exact z.elim
end Lt

/-! Lt, part Q: dicts with keys of any kind, written out in the program. -/
namespace Lt
open PySem PySem.Spec PyProof.Rows L2

section
variable {P : Program} {w : World} {A : Around} {E : Value → Shared → Prop} {s : Shared}
theorem no_places {es : Array DictEntry} {hk : Int} (hno : ∀ e ∈ es, e.hash ≠ hk) : placesWithHash es.size (fun i => es[i]?.map (·.hash)) hk = [] := by
  rw [placesWithHash]
  refine List.filter_eq_nil_iff.mpr fun i _ z => ?_
  cases q : es[i]? with
  | none => rw [q] at z; cases z
  | some e =>
    rw [q] at z
    exact hno e (Array.mem_of_getElem? q) (by simpa using z)
/-- no entry of that hash: not found -/
theorem find_fresh {d : Addr} {key : Value} {hk : Int} {o : Obj} {es : Array DictEntry} {ep : Nat} {Q : Option Nat → Shared → Prop} (ho : s.heap.get? d = some o) (hd : o.data = .dict es ep) (ns : ∀ x t, key ≠ .str x t)
    (hno : ∀ e ∈ es, e.hash ≠ hk) (hne : ∀ e ∈ es, e.key ≠ key) (q : Q none s) : wpAny (model P w) A (dictFind d key hk) Q E s := by
  unfold dictFind
  refine wpAny_holding (wpAny_bind (wpAny_dictEntries ho hd ?_))
  dsimp only
  rw [no_places hno]
  have anyF : ∀ a, key = .ref a → ¬ (es.any fun e => e.key == key && e.hash != hk) = true := fun a _ z => by
    rw [← Array.any_toList, List.any_eq_true] at z
    obtain ⟨e, he, z⟩ := z
    rw [Bool.and_eq_true] at z
    exact hne e (Array.mem_toList_iff.mp he) (by simpa using z.1)
  cases key with
  | str x t => exact absurd rfl (ns x t)
  | ref a =>
    dsimp only
    rw [if_neg (by simp [carriedByValue]), if_neg (anyF a rfl), if_neg (by simp)]
    have quiet : ∀ {R : Bool → Shared → Prop}, R false s → wpAny (model P w) A (tableMayTell (.ref a) []) R E s := fun r => by
      unfold tableMayTell
      exact wpAny_pure r
    refine wpAny_bind (quiet ?_)
    rw [if_neg (by simp), List.forIn_nil]
    exact wpAny_bind (wpAny_pure (wpAny_pure q))
  | _ =>
    dsimp only
    rw [if_pos (by rfl)]
    unfold dictWalkPlain
    rw [List.forIn_nil]
    exact wpAny_bind (wpAny_pure (wpAny_pure q))
theorem put_fresh {d : Addr} {key v : Value} {hk : Int} {o : Obj} {es : Array DictEntry} {ep : Nat} {Q : Unit → Shared → Prop} (ho : s.heap.get? d = some o) (hd : o.data = .dict es ep) (ns : ∀ x t, key ≠ .str x t)
    (hno : ∀ e ∈ es, e.hash ≠ hk) (hne : ∀ e ∈ es, e.key ≠ key) (hz : es.size ≤ 1000) (q : Q () { s with heap := s.heap.update d (Obj.mapDictKeys (·.push ⟨hk, key, v⟩)) }) : wpAny (model P w) A (dictSetHashed d key hk v) Q E s := by
  unfold dictSetHashed
  refine wpAny_holding (wpAny_bind (find_fresh ho hd ns hno hne ?_))
  exact wpAny_bind (wpAny_rule (wpAny_updateDictKeys (hz := by rw [sizeLine_eq]; omega) ho hd q))
end

/-- the object is a dict of these keys (as data, as values) and values -/
def RawK (w : World) (o : Obj) (ds : List D) (kvs : List (V × V)) : Prop := ∃ es ep, o.ExactDict ∧ o.data = .dict es ep ∧ Paired (fun (p : V × V) (e : DictEntry) => RelV p.1 e.key ∧ RelV p.2 e.val) kvs es.toList ∧ es.toList.map (·.hash) = ds.map (·.hash w)
theorem RawK.ents {w : World} {o : Obj} {ds : List D} {kvs : List (V × V)} (h : RawK w o ds kvs) : EntsV o kvs := let ⟨es, ep, h1, h2, h3, _⟩ := h; ⟨es, ep, h1, h2, h3⟩
theorem RawK.new (w : World) : RawK w newD [] [] := ⟨#[], 0, ⟨rfl, rfl, rfl⟩, rfl, .nil, rfl⟩
section
variable {X : Cx} {pins : List (Addr × Obj)} {σ : L2.St} {E : Value → Shared → Prop}
/-- the hash of what is data -/
theorem hash_of {H : Hp} {s : Shared} {d : D} {v : V} {u : Value} {Q : Int → Shared → Prop} (hu : X.A.units + 64 < cLine) (I : Inv X pins σ H s) (a : At H d v) (hd : d.depth ≤ 8) (nt : ∀ x, d ≠ .text x) (r : RelV v u) (q : ∀ t, Q (d.hash X.w) { s with toks := t }) :
    (∀ x t, u ≠ .str x t) ∧ wpAny (model X.prog X.w) X.A (pyHash u) Q E s := by
  cases d with
  | none =>
    obtain rfl := a.of_non
    cases r
    exact ⟨(fun _ _ z => nomatch z), (leafKind X.prog X.w).pyHash (k := .none) rfl (q _)⟩
  | num i =>
    obtain rfl := a.of_int
    obtain ⟨t, rfl⟩ := r
    exact ⟨(fun _ _ z => nomatch z), (leafKind X.prog X.w).pyHash (k := .num i) (decide_eq_true rfl) (q _)⟩
  | text x => exact absurd rfl (nt x)
  | tup ks =>
    obtain ⟨b, xs, rfl, hb, _⟩ := id a.of_tup
    cases r
    have room : (nestedKind X.prog X.w).room X.A := by
      show X.A.units + 8 < cLine
      omega
    exact ⟨(fun _ _ z => nomatch z), (nestedKind X.prog X.w).pyHash room (key_is I.hok a hd) (q _)⟩
theorem store_all {p : Addr} (hu : X.A.units + 64 < cLine) : ∀ (ds2 : List D) (kv2 : List (V × V)) (us : List (Value × Value)) (ds1 : List D) (kv1 : List (V × V)) (o : Obj) (H : Hp) (s : Shared) (Q : PUnit → Shared → Prop),
    Inv X pins σ H s → H p = some (raw p o) → RawK X.w o ds1 kv1 → Ats H ds1 (kv1.map (·.1)) → Ats H ds2 (kv2.map (·.1)) → (∀ d ∈ ds2, d.depth ≤ 8 ∧ ∀ x, d ≠ .text x) → ((ds1 ++ ds2).map (·.hash X.w)).Nodup →
    Paired (fun (a : V × V) (b : Value × Value) => RelV a.1 b.1 ∧ RelV a.2 b.2) kv2 us → ds1.length + ds2.length ≤ 15 →
    (∀ o' s', RawK X.w o' (ds1 ++ ds2) (kv1 ++ kv2) → Inv X pins σ (upd H p (raw p o')) s' → Q PUnit.unit s') → wpAny (model X.prog X.w) X.A (storeAll p us) Q E s := by
  intro ds2
  induction ds2 with
  | nil =>
    intro kv2 us ds1 kv1 o H s Q I hp hk _ a2 _ _ hr _ q
    cases kv2 with
    | cons e r => rw [List.map_cons, Ats] at a2; cases a2
    | nil =>
      cases hr
      unfold storeAll
      rw [List.forIn_nil]
      have e : upd H p (raw p o) = H := by
        funext b
        by_cases z : b = p
        · rw [z, upd_same, hp]
        · rw [upd_ne z]
      exact wpAny_pure (q o s (by rw [List.append_nil, List.append_nil]; exact hk) (by rw [e]; exact I))
  | cons d ds2 ih =>
    intro kv2 us ds1 kv1 o H s Q I hp hk a1 a2 hd nd hr hl q
    cases kv2 with
    | nil =>
      rw [List.map_nil, Ats] at a2
      obtain ⟨_, _, z, _⟩ := a2
      cases z
    | cons e kv2 =>
      cases hr with
      | @cons _ u _ us r1 r2 =>
        obtain ⟨au, a2'⟩ : At H d e.1 ∧ Ats H ds2 (kv2.map (·.1)) := by
          rw [List.map_cons, Ats] at a2
          obtain ⟨v, r, z, h, t⟩ := a2
          injection z with z1 z2
          rw [z1, z2]
          exact ⟨h, t⟩
        obtain ⟨es, ep, hx, hdt, hpr, hhs⟩ := hk
        have ho := raw_get I.hok hp
        obtain ⟨hd1, hd2⟩ := hd d List.mem_cons_self
        have hlen : es.toList.length = ds1.length := by
          have := congrArg List.length hhs
          rw [List.length_map, List.length_map] at this
          exact this
        have hnd : d.hash X.w ∉ ds1.map (·.hash X.w) := by
          rw [List.map_append, List.map_cons, List.nodup_append] at nd
          intro z
          exact nd.2.2 _ z _ List.mem_cons_self rfl
        have hno : ∀ e' ∈ es, e'.hash ≠ d.hash X.w := fun e' he z => hnd (by
          rw [← hhs, ← z]
          exact List.mem_map.mpr ⟨e', Array.mem_toList_iff.mpr he, rfl⟩)
        have hne : ∀ e' ∈ es, e'.key ≠ u.1 := fun e' he z => by
          obtain ⟨j, hj⟩ := List.mem_iff_getElem?.mp (Array.mem_toList_iff.mpr he)
          have hjl : j < kv1.length := by
            rw [Paired.length hpr]
            exact (List.getElem?_eq_some_iff.mp hj).1
          obtain ⟨y, hy, ry, _⟩ := paired_get hpr (List.getElem?_eq_getElem hjl)
          rw [hj] at hy
          obtain rfl := Option.some.inj hy
          obtain ⟨d', hd', ad⟩ := a1.get' (v := kv1[j].1) (i := j) (by rw [List.getElem?_map, List.getElem?_eq_getElem hjl]; rfl)
          rw [z] at ry
          rw [ry.inj r1.1] at ad
          obtain rfl := At.inj _ _ _ ad au
          exact hnd (List.mem_map.mpr ⟨_, List.mem_of_getElem? hd', rfl⟩)
        have ns := (hash_of (E := E) (Q := fun _ _ => True) hu I au hd1 hd2 r1.1 (fun _ => True.intro)).1
        unfold storeAll
        rw [List.forIn_cons]
        refine wpAny_bind (wpAny_bind ?_)
        unfold dictSet
        refine wpAny_holding (wpAny_bind (hash_of hu I au hd1 hd2 r1.1 fun t => ?_).2)
        refine put_fresh (s := { s with toks := t }) ho hdt ns hno hne (by rw [← Array.length_toList, hlen]; simp at hl; omega) (wpAny_pure ?_)
        have he := Heap.get?_update_self (Obj.mapDictKeys (·.push ⟨d.hash X.w, u.1, u.2⟩)) ho (Obj.isFreed_of_dict (Obj.data_mapDictKeys hdt _))
        have I1 := Inv.rawset (t' := t) I hp (Heap.SameBut.update ..) he
        have tp : Tups H (upd H p (raw p (o.mapDictKeys (·.push ⟨d.hash X.w, u.1, u.2⟩)))) := tups_upd hp (fun _ z => nomatch z)
        have hk1 : RawK X.w (o.mapDictKeys (·.push ⟨d.hash X.w, u.1, u.2⟩)) (ds1 ++ [d]) (kv1 ++ [e]) := by
          refine ⟨_, ep + 1, hx.mapDictKeys _, Obj.data_mapDictKeys hdt _, ?_, ?_⟩
          · rw [Array.toList_push]
            exact Paired.snoc hpr r1
          · rw [Array.toList_push, List.map_append, List.map_append, hhs]
            rfl
        refine ih kv2 us (ds1 ++ [d]) (kv1 ++ [e]) _ _ _ Q I1 upd_same hk1 ?_ (a2'.tp tp) (fun d' hd' => hd d' (List.mem_cons_of_mem _ hd')) (by rw [List.append_assoc]; exact nd) r2 (by rw [List.length_append]; simp at hl ⊢; omega) fun o' s' k' J => ?_
        · rw [List.map_append]
          exact (a1.tp tp).app (by rw [List.map_cons, Ats]; exact ⟨_, _, rfl, au.tp tp, by rw [List.map_nil, Ats]⟩)
        · have e2 : upd (upd H p (raw p (o.mapDictKeys (·.push ⟨d.hash X.w, u.1, u.2⟩)))) p (raw p o') = upd H p (raw p o') := by
            funext b
            by_cases z : b = p
            · rw [z, upd_same, upd_same]
            · rw [upd_ne z, upd_ne z, upd_ne z]
          rw [e2] at J
          exact q o' s' (by rw [List.append_assoc, List.append_assoc] at k'; exact k') J
end

/-! ### {k: v, ..} -/
inductive PPr (X : Cx) : List Expr → List Expr → List (TE × TE) → Prop
  | nil : PPr X [] [] []
  | cons {k v : Expr} {tk tv : TE} {ks vs : List Expr} {ts : List (TE × TE)} : PE X k tk → PE X v tv → PPr X ks vs ts → PPr X (k :: ks) (v :: vs) ((tk, tv) :: ts)
def tPairs : List (TE × TE) → L2.St → Hp → (List (V × V) → Hp → Prop) → Prop
  | [], _, H, R => R [] H
  | t :: ts, σ, H, R => t.1 σ H fun k H1 => t.2 σ H1 fun v H2 => tPairs ts σ H2 fun r H3 => R ((k, v) :: r) H3
def tDisp (w : World) (ts : List (TE × TE)) : TE := fun σ H Q => ∀ p, H p = none → (p == sysModules) = false → tPairs ts σ (upd H p (raw p newD)) fun kvs H1 => H1 p = some (raw p newD) ∧
  ∃ ds : List D, ds.length ≤ 15 ∧ Ats H1 ds (kvs.map (·.1)) ∧ (∀ d ∈ ds, d.depth ≤ 8 ∧ ∀ x, d ≠ .text x) ∧ (ds.map (·.hash w)).Nodup ∧ ∀ o, RawK w o ds kvs → Q (.ref p) (upd H1 p (raw p o))
section
variable {X : Cx}
theorem ev_pairs {pins : List (Addr × Obj)} {σ : L2.St} {pos : Pos} : ∀ {ks vs : List Expr} {ts : List (TE × TE)}, PPr X ks vs ts → ∀ (H : Hp) (s : Shared) (R : List (V × V) → Hp → Prop), Inv X pins σ H s → tPairs ts σ H R →
    wpAny (model X.prog X.w) X.A (evalPairs (pairTrees (ks.map some) vs X.env pos)) (fun us s1 => ∃ kvs H1, Inv X pins σ H1 s1 ∧ Paired (fun (a : V × V) (b : Value × Value) => RelV a.1 b.1 ∧ RelV a.2 b.2) kvs us ∧ R kvs H1) X.xe s
  | _, _, _, .nil, H, s, R, I, h => wpAny_pure ⟨[], H, I, .nil, h⟩
  | _, _, _, .cons (ks := ks) (vs := vs) hk hv r, H, s, R, I, h => by
    show wpAny _ _ (eval _ X.env >>= _) _ _ s
    refine wpAny_bind (thn (hk.run pins s σ H _ I h) fun ku s1 ⟨k, H1, I1, rk, h1⟩ => ?_)
    refine wpAny_bind (wpAny_holding (wpAny_bind (thn (hv.run pins s1 σ H1 _ I1 h1) fun vu s2 ⟨v, H2, I2, rv, h2⟩ => wpAny_bind (wpAny_standAt (wpAny_pure ?_)))))
    refine wpAny_bind (wpAny_holding (thn (ev_pairs r H2 s2 _ I2 h2) fun us s3 ⟨kvs, H3, I3, rp, h3⟩ => ?_))
    exact wpAny_pure ⟨_, H3, I3, .cons ⟨rk, rv⟩ rp, h3⟩
theorem ppr_len {ks vs : List Expr} {ts : List (TE × TE)} (h : PPr X ks vs ts) : ks.length = vs.length := by
  induction h with
  | nil => rfl
  | cons _ _ _ ih => rw [List.length_cons, List.length_cons, ih]
theorem pe_disp {w : World} {ks vs : List Expr} {ts : List (TE × TE)} {pos : Pos} (hw : X.w = w) (hu : X.A.units + 64 < cLine) (h : PPr X ks vs ts) (h0 : ks ≠ [] := by exact List.cons_ne_nil _ _) (hl : ks.length ≤ 15 := by decide) : PE X (.Dict (ks.map some) vs pos) (tDisp w ts) := by
  subst hw
  refine ⟨fun pins s σ H Q I q => ?_⟩
  refine wpAny_Dict_any (by simp) (by rw [List.length_map]; exact ppr_len h) (by simpa using h0) (by rw [List.length_map]; exact hl) ?_
  have I1 : Inv X pins σ (upd H s.heap.objs.size (raw s.heap.objs.size newD)) { s with heap := s.heap.push newD } := Inv.rawnew (t' := s.toks) I (fun _ _ z => Heap.get?_push_of_some _ z) (Nat.le_refl _) (Heap.get?_push_size _ rfl)
  refine thn (ev_pairs h _ _ _ I1 (q _ (I.hok.fresh (Nat.le_refl _)) (nosys I (Nat.le_refl _)))) fun us s1 ⟨kvs, H1, I2, rp, hp, ds, hl2, ha, hd, hn, q2⟩ => ?_
  exact store_all hu ds kvs us [] [] newD H1 s1 _ I2 hp (.new X.w) Ats.nil ha hd (by simpa using hn) rp (by simpa using hl2) fun o' s' k' J => ⟨.ref s.heap.objs.size, _, J, rfl, q2 o' (by simpa using k')⟩
end

/-! ### == of lists that hold lists and dicts -/
theorem valV_in {κ : Type} [DecidableEq κ] : ∀ {kvs : List (κ × V)} {p : κ × V}, (kvs.map (·.1)).Nodup → p ∈ kvs → valV kvs p.1 = some p.2
  | [], _, _, h => nomatch h
  | x :: l, p, nd, h => by
    rw [List.map_cons, List.nodup_cons] at nd
    rcases List.mem_cons.mp h with e | e
    · rw [e, valV_pos rfl]
    · rw [valV_neg (fun z => nd.1 (List.mem_map.mpr ⟨p, e, z.symm⟩))]
      exact valV_in nd.2 e
def DDct (P : Program) (w : World) : Eqv := fun x y H => ∃ a b ka, x = .ref a ∧ y = .ref b ∧ ND P w H a ka ∧ ND P w H b ka ∧ ∀ e ∈ ka, flatB e.2 = true
theorem Ext.tups {H H' : Hp} (e : Ext H H') : Tups H H' := fun _ _ h => e _ _ h
theorem mon_dct {P : Program} {w : World} : Mon (DDct P w) := fun x y H H' e ⟨a, b, ka, h1, h2, h3, h4, h5⟩ => ⟨a, b, ka, h1, h2, h3.at (Ext.tups e) fun _ h => e _ _ h, h4.at (Ext.tups e) fun _ h => e _ _ h, h5⟩
section
variable {X : Cx}
theorem rcG_dct (n : Nat) (hn : 1 ≤ n) : RcG X n (DDct X.prog X.w) := by
  intro A pins s σ H x y u v sb I rx ry d
  obtain ⟨a, b, ka, rfl, rfl, ea, eb, hp⟩ := d
  obtain rfl : u = Value.ref a := rx
  obtain rfl : v = Value.ref b := ry
  have hu : A.units + 64 < cLine := (sb.room.mono hn).units
  obtain ⟨ta, _, _, _⟩ := isDict_at I ea.isDict
  obtain ⟨tb, _, _, _⟩ := isDict_at I eb.isDict
  have nd := ea.nodup
  refine wpAny_richCompare_same_room (op := .Eq) ta tb PySem.F.slot_dict_eq (wpAny_call_entry PySem.F.slot_dict_eq ta PySem.F.entry_dict_eq ?_ (PySem.F.args_dict_eq_2 _ _)) (by omega)
  show wpAny _ _ (Builtin.Dict.dictSlotArgs "__eq__" ⟨[.ref a, .ref b], []⟩ >>= _) _ _ s
  refine wpAny_bind ?_
  unfold Builtin.Dict.dictSlotArgs
  refine wpAny_bind (wpAny_notOrdered_dict ta ?_)
  refine (show wpAny _ _ (pure (Value.ref a, Value.ref b)) _ _ s from wpAny_pure (wpAny_bind (wpAny_isInstance (T := "dict") tb PySem.F.sub_dict_dict ?_)))
  simp only [Bool.not_true, Bool.false_eq_true, if_false]
  refine wpAny_bind (wpAny_pure (wpAny_bind (wpAny_pure (wpAny_bind (same_nd (by show A.units + 1 + 60 < cLine; omega) I ea eb rfl (fun p hm => ⟨?_, hp p hm⟩) (wpAny_pure ⟨_, rfl, ?_, ?_⟩))))))
  · exact valV_in nd hm
  · exact fun z => nomatch z
  · exact ⟨rfl, H, I, Ext.rfl'⟩
/-- a list of flat lists and of dicts -/
def DKept (P : Program) (w : World) : Eqv := DList (fun x y H => DList DFlat x y H ∨ DDct P w x y H)
theorem rcG_flats : RcG X 1 (DList DFlat) := rcG_list mon_flat eqG_flat
theorem op_eqKept {P : Program} {w : World} (qp : X.prog = P) (qw : X.w = w) (hr : Room 2 X.A) : OpR X (compareOp .Eq) (rEqG (DKept P w)) := by
  subst qp qw
  exact op_eqG (rcG_list ((mon_list mon_flat).or mon_dct) ((rcG_flats.eqG fun x y H ⟨a, b, _, _, h1, h2, _⟩ => ⟨a, b, h1, h2⟩).or ((rcG_dct 1 (Nat.le_refl _)).eqG fun x y H ⟨a, b, _, h1, h2, _⟩ => ⟨a, b, h1, h2⟩))) hr
theorem op_eqFl (hr : Room 1 X.A) : OpR X (compareOp .Eq) (rEqG (DList DFlat)) := op_eqG rcG_flats hr
end
end Lt

/-! Lt, part R: own defs called within an except suite with what was caught, dict(..) of pairs with keys of any kind. -/
namespace Lt
open PySem PySem.Spec PyProof.Rows L2

/-- a def called within an except suite: p is the exception that was caught -/
structure FnW (P : Program) (w : World) (K : PySem.W.Frag) (mg : Str → Option Value) (base : Heap) (k : Nat) (f : Addr) (fd : FuncData) (ps : List Str) (sp : Addr × Obj → Sp) : Prop where
  len : ∀ p vs H Q E, sp p vs H Q E → vs.length = ps.length
  run : ∀ (A : Around) (outer : List Env) (s : Shared) (H : Hp) (args : Args) (us : List Value) (vs : List V) (Q : VK) (E : XK) (p : Addr × Obj), L2H.RoomH k A → L2H.PinOk outer H s p → Env0 P w K mg base A outer s H → BindsTo s fd args (ps.zip us) → Vals vs us → sp p vs H Q E →
    codeAny (model P w) A (.call (.ref f) args) (CR CX0 outer P w H s Q E) s
theorem fn_ofW {P : Program} {w : World} {K : PySem.W.Frag} {mg : Str → Option Value} {base : Heap} {k : Nat} {f : Addr} {name qual : Str} {params : Arguments} {body : List Stmt} {scope : Scope} {dV kV doc pm cdv ct oc : Value} {an od : Option Addr}
    {osl : Array (Option Value)} {N ps : List Str} {sp : Addr × Obj → Sp} (lk : K.lookup f = some ⟨oc, od, .func (PySem.W.fnOf name qual params body scope dV kV doc pm an cdv ct), osl⟩) (hcd : PySem.W.codeIn K cdv qual = true) (S : FnScope N ps scope)
    (len : ∀ p vs H Q E, sp p vs H Q E → vs.length = ps.length)
    (hbody : ∀ (A : Around) (outer : List Env) (s : Shared) (H : Hp) (vs : List V) (Q : VK) (E : XK) (p : Addr × Obj), L2H.RoomH k (A.deeper (envOfC qual scope s.heap.objs.size f cdv)) → sp p vs H Q E →
      ∃ t, PSs (L2H.cxH CX0 P w K mg base N qual scope f cdv A outer s H E p).nox body t ∧ t { nx := fun _ H' => Q .non H', rt := Q } (L2.start N vs) H) :
    FnW P w K mg base (k + 1) f (PySem.W.fnOf name qual params body scope dV kV doc pm an cdv ct) ps sp := by
  refine ⟨len, fun A outer s H args us vs Q E p hr hpin e0 hb r hsp => ?_⟩
  have hl := len _ _ _ _ _ hsp
  have KX : K.In s.heap := e0.mod.kin.keeps fun b o e => (e0.bs b o e).1
  have lim : s.heap.NoLimit := e0.mod.nolimit.keeps fun b o e => (e0.bs b o e).1
  have hkind : ∀ y ∈ ps.zip us, scope.names.lookup y.1 = some .local ∨ (scope.names.lookup y.1 = some .cell ∧ ((cellsFrom (s.heap.objs.size + 1) scope.names []).lookup y.1).isSome = true) := fun ⟨n, v⟩ hy => by
    rcases S.par n (List.of_mem_zip hy).1 with q | q
    · exact .inl q
    · exact .inr ⟨q, PySem.W.cellsFrom_some _ _ _ (.inl q)⟩
  refine codeAny_call_function hr.depth (KX _ _ lk) rfl S.co S.gen rfl (PySem.W.codeRec_of KX hcd) (hb _ _ _ _ ?_)
  refine wpAny_newFunctionEnv_cells S.kind hkind fun env he s1 x => ?_
  subst he
  refine ⟨lim.keeps x.toInCall.keep, codeAny_func ?_⟩
  obtain ⟨t, ht, hq⟩ := hbody A outer s H vs Q E p (hr.deeper _) hsp
  have I : Inv (L2H.cxH CX0 P w K mg base N qual scope f cdv A outer s H E p) [] (L2.start N vs) H s1 := L2H.inv_startH S hpin e0 hl r x
  refine wpAny_mono (ht.nox.run [] s1 (L2.start N vs) H _ I hq) (fun fl s' hs => ?_) fun e s' hs => hs
  have fin : ∀ {σ' : L2.St} {H' : Hp} {v : V} {u : Value}, Inv (L2H.cxH CX0 P w K mg base N qual scope f cdv A outer s H E p) [] σ' H' s' → RelV v u → Q v H' → CE outer P w H s Q u s' :=
    fun {σ' H' v u} J rv q => ⟨v, H', J.os, J.bare, J.base, J.hok, rv, q⟩
  cases fl with
  | ret u =>
    obtain ⟨v, σ', H', J, rv, q⟩ := hs
    exact fin J rv q
  | next =>
    obtain ⟨σ', H', J, q⟩ := hs
    exact fin (v := V.non) (u := Value.none) J rfl q
  | brk =>
    obtain ⟨_, _, _, q⟩ := hs
    exact False.elim q
  | cont =>
    obtain ⟨_, _, _, q⟩ := hs
    exact False.elim q
/-- THE RULE for such a def -/
theorem fun_okW {P : Program} {w : World} {K : PySem.W.Frag} {mg : Str → Option Value} {base : Heap} {x qual : Str} {st : Stmt} {f : Addr} {fd : FuncData} {N ps : List Str} {k : Nat} {sp : Addr × Obj → Sp} (F : Fun K x qual st f fd) (S : FnScope N ps (defScope st)) (len : ∀ p vs H Q E, sp p vs H Q E → vs.length = ps.length)
    (hbody : ∀ (cdv : Value) (A : Around) (outer : List Env) (s : Shared) (H : Hp) (vs : List V) (Q : VK) (E : XK) (p : Addr × Obj), L2H.RoomH k (A.deeper (envOfC qual (defScope st) s.heap.objs.size f cdv)) → sp p vs H Q E →
      ∃ t, PSs (L2H.cxH CX0 P w K mg base N qual (defScope st) f cdv A outer s H E p).nox (defBody st) t ∧ t { nx := fun _ H' => Q .non H', rt := Q } (L2.start N vs) H) : FnW P w K mg base (k + 1) f fd ps sp := by
  obtain ⟨oc, od, kV, doc, pm, an, cdv, ct, osl, rfl, lk, hcd⟩ := F.ex
  exact fn_ofW lk hcd S len fun A outer s H vs Q E p hr hsp => hbody cdv A outer s H vs Q E p hr hsp
structure CalW (P : Program) (w : World) (K : PySem.W.Frag) (mg : Str → Option Value) (base : Heap) (k : Nat) (x : Str) (ps : List Str) (sp : Addr × Obj → Sp) (f : Addr) (fd : FuncData) : Prop where
  ok : FnW P w K mg base k f fd ps sp
  gl : mg x = some (.ref f)
  kp : PySem.W.keepIn K (.ref f) = true
  bd : Binds K fd ps []
section
variable {X : Cx} {k : Nat} {f : Addr} {fd : FuncData} {ps : List Str} {sp : Addr × Obj → Sp} {x : Str} {q pos : Pos} {e : Expr} {es : List Expr} {t : TA}
theorem ownW_run {pins : List (Addr × Obj)} {σ : L2.St} {H1 : Hp} {s1 : Shared} {Q : VK} {us : List Value} {vs : List V} {p : Addr × Obj} (hp : p ∈ X.pn) (c : CalW X.prog X.w X.K X.mg X.base k x ps sp f fd) (hr : L2H.RoomH k X.A)
    (I1 : Inv X pins σ H1 s1) (r : Vals vs us) (q : sp p vs H1 Q E0) : wpAny (model X.prog X.w) X.A (call (.ref f) us) (EP X pins σ Q) X.xe s1 := by
  have hl : us.length = ps.length := by rw [← r.length]; exact c.ok.len _ _ _ _ _ q
  have b := c.bd s1 us I1.kIn (by rw [List.append_nil]; exact hl)
  rw [List.append_nil] at b
  have P1 := I1.pin p (List.mem_append_left _ hp)
  have hpin : L2H.PinOk X.stack H1 s1 p := ⟨P1.1, P1.2.1, fun hm => (List.mem_cons.mp (I1.stkSub p.1 hm)).elim P1.2.2.1 P1.2.2.2.1, P1.2.2.2.2⟩
  refine wpAny_call (codeAny_mono (c.ok.run X.A X.stack s1 H1 ⟨us, []⟩ us vs Q E0 p hr hpin I1.env0 b r q) fun r s' hq => ?_)
  cases r with
  | error e => exact False.elim hq
  | ok fl =>
    cases fl with
    | ret u => exact I1.after hq
    | next => exact False.elim hq
    | brk => exact False.elim hq
    | cont => exact False.elim hq
end
/-- what a def is asked of the exception at a, of the class cls -/
def withZ (sp : Addr → Value → Option Addr → Sp) : Addr × Obj → Sp := fun p vs H Q E => ∃ (cls : Value) (d : Option Addr), Zc cls d p.2 ∧ (∃ us, p.2.data = .fields us) ∧ sp p.1 cls d vs H Q E
/-- .. within the suite itself -/
theorem pe_ownWs {Y : Cx} {a : Addr} {oe : Obj} {pn : List (Addr × Obj)} {cls : Value} {d : Option Addr} {k : Nat} {f : Addr} {fd : FuncData} {ps : List Str} {sp : Addr → Value → Option Addr → Sp} {x : Str} {q pos : Pos} {e : Expr} {es : List Expr} {t : TA} (c : CalW Y.prog Y.w Y.K Y.mg Y.base k x ps (withZ sp) f fd) (hr : L2H.RoomH k Y.A)
    (hz : Zc cls d oe) (hf : ∃ us, oe.data = .fields us) (hg : Gl (Y.suite a ((a, oe) :: pn)) x) (ha : PA (Y.suite a ((a, oe) :: pn)) (e :: es) t) (hdb : (x == ("__debug__" : Str)) = false := by decide)
    (he : starEach (e :: es) Y.env = (false, eval e Y.env) :: starEach es Y.env := by rfl) (hpl : (backTo pos (starEach es Y.env)).any (·.1) = false := by rfl) :
    PE (Y.suite a ((a, oe) :: pn)) (.Call (.Name x q) (e :: es) [] pos) (tCall (sp a cls d) [] E0 t) := by
  refine ⟨fun pins s σ H Q I h => ?_⟩
  refine wpAny_Call_Name_kw (ld_glob I hg c.gl ?_ hdb)
  refine PySem.W.callWith_K (h₀ := Y.base) I.ok.mod.kin c.kp (thn (ha.run pos pins s σ H _ I h) fun us s1 ⟨vs, H1, I1, r, q⟩ => ⟨I1.kIn, ?_⟩) he hpl
  have q : sp a cls d vs H1 Q E0 := by
    have q' : sp a cls d (vs ++ []) H1 Q E0 := q
    rw [List.append_nil] at q'
    exact q'
  exact ownW_run (X := Y.suite a ((a, oe) :: pn)) (p := (a, oe)) List.mem_cons_self c ⟨hr.dp, hr.un⟩ I1 r ⟨cls, d, hz, hf, q⟩
/-- isinstance of what was caught, in such a def -/
theorem call_isW {X : Cx} {p : Addr × Obj} {cls : Value} {d : Option Addr} (hp : p ∈ X.pn) (hz : Zc cls d p.2) (hf : ∃ vs, p.2.data = .fields vs) : CallR X (.builtin "isinstance") (rIsX X.K cls d p.1) := by
  intro pins s σ H xs us Q I r h
  obtain ⟨D, rfl, rfl, C, h⟩ := h
  obtain ⟨hget, _⟩ := I.pin p (List.mem_append.mpr (.inl hp))
  obtain ⟨a, oe⟩ := p
  obtain ⟨vs, hv⟩ := hf
  have J : PySem.W.InstAt s.heap a oe D none := by
    obtain ⟨oc, od, oda, osl⟩ := oe
    obtain ⟨h1, h2⟩ := hz
    dsimp only at h1 h2 hv
    subst h1 h2 hv
    exact ⟨hget, rfl, rfl, trivial⟩
  rcases h with ⟨c, cv, b, rfl, kc, e, q⟩ | ⟨tp, cs, ws, b, rfl, hT, kc, e, q⟩
  · obtain ⟨u1, u2, rfl, r1, r2⟩ := vals2 r
    have e2 := kc.eq r2
    subst e2
    cases (show u1 = Value.ref a from r1)
    exact PySem.W.kia_one (PySem.W.handS_kitx_exc C.hg C.hk C.hs C.hd C.ha C.hn C.ht C.hm) I.kIn J e (fun z => nomatch z) fun tk => ⟨.bl b, H, I.kept (t' := tk) fun _ _ z => z, rfl, q⟩
  · obtain ⟨u1, u2, rfl, r1, r2⟩ := vals2 r
    cases (show u1 = Value.ref a from r1)
    cases (show u2 = Value.ref tp from r2)
    obtain ⟨_, its, rv, o, h1, h2, n, h3⟩ := (show ObjOk X.prog X.w H s.heap tp (.tup cs) from I.hok tp _ hT)
    have e3 := ClsV.all kc rv
    subst e3
    obtain ⟨oc, od, dt, sl⟩ := o
    simp only at h2 h3
    subst h2 h3
    exact PySem.W.kia_tup (PySem.W.handS_kitx_exc C.hg C.hk C.hs C.hd C.ha C.hn C.ht C.hm) I.kIn J h1 e (fun z => nomatch z) fun tk => ⟨.bl b, H, I.kept (t' := tk) fun _ _ z => z, rfl, q⟩

/-! ### dict(..) of a list of pairs -/
section
variable {prog : Program} {w : World} {A : Around} {E : Value → Shared → Prop}
/-- the walk over the pairs: Pd i o says that the dict's object holds the first i -/
theorem upd_loopG {R : Result → Shared → Prop} {h0 : Heap} {S I l : Addr} {items : Array Value} {res : Value} {Pd : Nat → Obj → Prop} {n : Nat} (hh : A.handled = none) (hlI : l ≠ I) (hSI : S ≠ I) (hSl : S ≠ l)
    (step : ∀ (i : Nat) (k v : Value) (s : Shared) (o : Obj) (Q : PUnit → Shared → Prop) (b : Addr), i < n → items[i]? = some (.ref b) → IsTup h0 b #[k, v] → (∀ b ob, h0.get? b = some ob → s.heap.get? b = some ob) → s.heap.get? S = some o → Pd i o →
      (∀ h' tk o', h'.get? S = some o' → Pd (i + 1) o' → (∀ b ob, b ≠ S → s.heap.get? b = some ob → h'.get? b = some ob) → Q PUnit.unit { s with heap := h', toks := tk }) → wpAny (model prog w) A.in1 (dictSet S k v) Q E s)
    (h0S : h0.get? S = none) (h0I : h0.get? I = none) (hsz : items.size = n)
    (ht : ∀ (j : Nat), j < n → ∃ (b : Addr) (k v : Value), items[j]? = some (.ref b) ∧ IsTup h0 b #[k, v]) :
    ∀ (m i : Nat) (ix : Int) (t : Tok) (s : Shared) (o : Obj), n = i + m → (∀ b ob, h0.get? b = some ob → s.heap.get? b = some ob) → s.heap.IsListIter I l i → s.heap.IsList l items → s.heap.get? S = some o → Pd i o →
      (∀ h' tk o', h'.get? S = some o' → Pd n o' → (∀ b ob, b ≠ S → b ≠ I → s.heap.get? b = some ob → h'.get? b = some ob) → R (.ok (.ret res)) { s with heap := h', toks := tk }) →
      (∀ e s', E e s' → R (.error e) s') → codeAny (model prog w) A (.builtin "dict.update.loop" ⟨[.ref S, .ref I, .int ix t, res], []⟩) R s
  | 0, i, ix, t, s, o, hn, kp, hit, hl, hS, hP, hR, hE => by
    refine codeAny_builtin ud_entry ?_
    rw [Around.under_plainId ud_plain _]
    show wpAny _ A.in1 (pyNext (.ref I) >>= _) _ _ s
    refine wpAny_bind (wpAny_pyNext_list_end (A := A.in1) hh hit hl (Array.getElem?_eq_none (by omega)) fun h' he => ?_)
    show wpAny _ A.in1 (Builtin.Dict.addKeywords S [] >>= _) _ _ _
    refine wpAny_bind (wpAny_pure (wpAny_pure ?_))
    exact hR h' s.toks o (he _ _ hSI hS) (by rw [hn]; exact hP) fun b o _ hb e => he b o hb e
  | m + 1, i, ix, t, s, o, hn, kp, hit, hl, hS, hP, hR, hE => by
    obtain ⟨b, k, v, hb, htup⟩ := ht i (by omega)
    have hbI : b ≠ I := fun z => by
      obtain ⟨ob, hob, _⟩ := id htup
      rw [z, h0I] at hob
      cases hob
    refine codeAny_builtin ud_entry ?_
    rw [Around.under_plainId ud_plain _]
    show wpAny _ A.in1 (pyNext (.ref I) >>= _) _ _ s
    refine wpAny_bind (wpAny_pyNext_list_item (x := .ref b) hit hl hb fun h1 hit1 hs1 => ?_)
    have k1 : ∀ b ob, h0.get? b = some ob → h1.get? b = some ob := fun c oc e => hs1.extBut c oc (fun z => by rw [z, h0I] at e; cases e) (kp c oc e)
    have ht1 : IsTup h1 b #[k, v] := htup.keeps k1
    have hl1 : h1.IsList l items := hl.extBut hs1.extBut hlI
    have hS1 : h1.get? S = some o := hs1.extBut _ _ hSI hS
    obtain ⟨ot, ho, hc, nn, hd⟩ := id ht1
    show wpAny _ A.in1 (holding [Value.ref b] _ >>= _) _ _ _
    refine wpAny_bind (wpAny_holding ?_)
    refine wpAny_bind (wpAny_tryCatch ?_)
    unfold Builtin.Dict.pairItems
    refine wpAny_bind (wpAny_typeOf (T := "tuple") ⟨ot, ho, hc⟩ ?_)
    rw [if_pos (by first | decide | rfl | simp)]
    refine wpAny_bind (wpAny_seqItems ho hd (wpAny_pure ?_))
    show wpAny _ A.in1 (holding [k, v] (dictSet S k v)) _ _ _
    refine wpAny_mono (wpAny_holding (step i k v { s with heap := h1 } o _ b (by omega) hb htup k1 hS1 hP fun h2 tk2 o2 hS2 hP2 hs2 => ?_)) (fun _ _ x => x) (fun e s' x => hE e s' x)
    refine wpAny_pure ⟨plainId_quiet ud_plain _, upd_loopG hh hlI hSI hSl step h0S h0I hsz ht m (i + 1) (ix + 1) 0 _ o2 (by omega) (fun c oc e => hs2 c oc (fun z => by rw [z, h0S] at e; cases e) (k1 c oc e)) ?_ ?_ hS2 hP2 (fun h' tk o' hd' hP' k => ?_) hE⟩
    · exact hit1.at fun o' e => hs2 I o' (Ne.symm hSI) e
    · exact hl1.at fun o' e => hs2 l o' (Ne.symm hSl) e
    · exact hR h' tk o' hd' hP' fun c oc h3 h4 e => k c oc h3 h4 (hs2 c oc h3 (hs1.extBut c oc h4 e))

/-- dict(l) of a list of pairs -/
theorem call_dict_pairsG {s : Shared} {l : Addr} {ol : Obj} {items : Array Value} {c n : Nat} {Pd : Nat → Obj → Prop} {Q : Value → Shared → Prop} (hh : A.handled = none) (hl : s.heap.get? l = some ol) (hc : ol.cls = .type "list") (hd : ol.dict = none)
    (hdat : ol.data = .seq items c) (hsz : items.size = n) (hP0 : Pd 0 newD) (ht : ∀ (j : Nat), j < n → ∃ (b : Addr) (k v : Value), items[j]? = some (.ref b) ∧ IsTup s.heap b #[k, v])
    (step : ∀ (i : Nat) (k v : Value) (s1 : Shared) (o : Obj) (Q : PUnit → Shared → Prop) (b : Addr), i < n → items[i]? = some (.ref b) → IsTup s.heap b #[k, v] → (∀ b ob, s.heap.get? b = some ob → s1.heap.get? b = some ob) → s1.heap.get? s.heap.objs.size = some o → Pd i o →
      (∀ h' tk o', h'.get? s.heap.objs.size = some o' → Pd (i + 1) o' → (∀ b ob, b ≠ s.heap.objs.size → s1.heap.get? b = some ob → h'.get? b = some ob) → Q PUnit.unit { s1 with heap := h', toks := tk }) → wpAny (model prog w) A.in1.in1 (dictSet s.heap.objs.size k v) Q E s1)
    (h : ∀ h' tk o', h'.get? s.heap.objs.size = some o' → Pd n o' → (∀ b o, s.heap.get? b = some o → h'.get? b = some o) → Q (.ref s.heap.objs.size) { s with heap := h', toks := tk }) :
    wpAny (model prog w) A (call (.type "dict") [.ref l]) Q E s := by
  refine callType_codes (Q₁ := fun obj s₁ => obj = .ref s.heap.objs.size ∧ s₁ = { s with heap := s.heap.push { cls := .type "dict", data := .dict #[] } }) PySem.F.kt_called_dict (PySem.F.kt_typeCall_dict_1 _) PySem.F.entry_dict_init (kt_code_dict_new _ ⟨rfl, rfl⟩) ?_
  rintro obj s₁ ⟨rfl, rfl⟩
  have hnew : (s.heap.push { cls := .type "dict", data := .dict #[] }).DictOf (mixKind prog w) s.heap.objs.size [] := Heap.DictOf.new s.heap
  have k0 : ∀ b o, s.heap.get? b = some o → (s.heap.push { cls := .type "dict", data := .dict #[] }).get? b = some o := fun b o e => Heap.get?_push_of_some _ e
  refine ⟨hnew.typeIs, PySem.F.args_dict_init_2 _ _, ?_⟩
  unfold Builtin.«dict.__init__»
  refine wpAny_bind ?_
  unfold Builtin.Dict.selfAndRest
  refine wpAny_bind (wpAny_notOrdered_dict hnew.typeIs ?_)
  show wpAny _ _ (pure (s.heap.objs.size, [Value.ref l])) _ _ _
  refine wpAny_pure ?_
  show wpAny _ _ (Builtin.Dict.updateFrom "dict.__init__" s.heap.objs.size (.ref l) [] .none) _ _ _
  unfold Builtin.Dict.updateFrom
  refine wpAny_bind (wpAny_typeOf (T := "list") ⟨ol, k0 _ _ hl, hc⟩ ?_)
  rw [if_pos (by first | decide | rfl | simp)]
  refine wpAny_bind (miss_list (k0 _ _ hl) hc hdat hd hh fun h1 tk1 hk1 => ?_)
  rw [if_pos (show (none : Option Value).isNone = true from rfl)]
  refine wpAny_bind (wpAny_rule ?_)
  have hl1 : h1.IsList l items := ⟨ol, hk1 _ _ (k0 _ _ hl), hc, c, hdat⟩
  have e0 : (s.heap.push { cls := .type "dict", data := .dict #[] }).get? s.heap.objs.size = some newD := Heap.get?_push_size _ rfl
  have hS1 : s.heap.objs.size < h1.objs.size := Heap.lt_size (hk1 _ _ e0)
  refine wpAny_bind (wpAny_pyIter_list hl1 ?_)
  have k2 : ∀ b o, h1.get? b = some o → (h1.push { cls := .type "list_iterator", data := .fields #[.ref l, .int 0 0] }).get? b = some o := fun b o e => Heap.get?_push_of_some _ e
  have hlt : l < s.heap.objs.size := Heap.lt_size hl
  have key := upd_loopG (prog := prog) (w := w) (A := A.in1) (E := E) (R := wants (fun r s₂ => r = .none ∧ Q (.ref s.heap.objs.size) s₂) E) (h0 := s.heap) (S := s.heap.objs.size) (I := h1.objs.size) (l := l) (items := items) (res := Value.none) (Pd := Pd) (n := n) hh
    (Nat.ne_of_lt (Nat.lt_trans hlt hS1)) (Nat.ne_of_lt hS1) (Nat.ne_of_gt hlt) step (Heap.get?_none_of_le (Nat.le_refl _)) (Heap.get?_none_of_le (Nat.le_of_lt hS1)) hsz ht n 0 0 0
    { s with heap := h1.push { cls := .type "list_iterator", data := .fields #[.ref l, .int 0 0] }, toks := tk1 } newD (by omega) (fun b ob e => k2 _ _ (hk1 _ _ (k0 _ _ e)))
    ⟨_, Heap.get?_push_size _ rfl, rfl, rfl⟩ (hl1.at fun o e => k2 _ _ e) (k2 _ _ (hk1 _ _ e0)) hP0
    (fun h' tk o' hd' hP' k => ⟨rfl, h h' tk o' hd' hP' fun b o e => k b o (Nat.ne_of_lt (Heap.lt_size e)) (Nat.ne_of_lt (Nat.lt_trans (Heap.lt_size e) hS1)) (k2 _ _ (hk1 _ _ (k0 _ _ e)))⟩) (fun _ _ x => x)
  first
    | exact wpAny_pure ⟨plainId_quiet ud_plain _, key⟩
    | exact wpAny_bind (wpAny_pure (wpAny_pure ⟨plainId_quiet ud_plain _, key⟩))
/-- the hash of data, where H stands behind the heap -/
theorem hash_ofK {H : Hp} {s : Shared} {d : D} {v : V} {u : Value} {Q : Int → Shared → Prop} (hu : A.units + 8 < cLine) (ok : HOk prog w H s.heap) (a : At H d v) (hd : d.depth ≤ 8) (nt : ∀ x, d ≠ .text x) (r : RelV v u) (q : ∀ t, Q (d.hash w) { s with toks := t }) :
    (∀ x t, u ≠ .str x t) ∧ wpAny (model prog w) A (pyHash u) Q E s := by
  cases d with
  | none =>
    obtain rfl := a.of_non
    cases r
    exact ⟨(fun _ _ z => nomatch z), (leafKind prog w).pyHash (k := .none) rfl (q _)⟩
  | num i =>
    obtain rfl := a.of_int
    obtain ⟨t, rfl⟩ := r
    exact ⟨(fun _ _ z => nomatch z), (leafKind prog w).pyHash (k := .num i) (decide_eq_true rfl) (q _)⟩
  | text x => exact absurd rfl (nt x)
  | tup ks =>
    obtain ⟨b, xs, rfl, hb, _⟩ := id a.of_tup
    cases r
    exact ⟨(fun _ _ z => nomatch z), (nestedKind prog w).pyHash (show (nestedKind prog w).room A from hu) (key_is ok a hd) (q _)⟩
end
theorem nodup_ixG {α : Type} {l : List α} (nd : l.Nodup) {i j : Nat} {a : α} (hi : l[i]? = some a) (hj : l[j]? = some a) : i = j := by
  obtain ⟨h1, e1⟩ := List.getElem?_eq_some_iff.mp hi
  obtain ⟨h2, e2⟩ := List.getElem?_eq_some_iff.mp hj
  exact (List.getElem_inj nd).mp (e1.trans e2.symm)
/-- rows of pairs: the key as data, the key, the value -/
def Rows (H : Hp) : List Addr → List (D × V × V) → Prop := Paired fun p e => H p = some (.tup [e.2.1, e.2.2]) ∧ At H e.1 e.2.1
theorem Rows.le {H H' : Hp} (l : Tups H H') {ps : List Addr} {rows : List (D × V × V)} (r : Rows H ps rows) : Rows H' ps rows := Paired.mapP r fun _ _ z => ⟨l _ _ z.1, z.2.tp l⟩
/-- dict(xs), xs a list of pairs with unlike keys: tuples, or keys of any kind with unlike hashes -/
def rDictP (w : World) (K : PySem.W.Frag) : List V → Hp → VK → Prop := fun xs H Q => ∃ (a : Addr) (ps : List Addr) (rows : List (D × V × V)), xs = [.ref a] ∧ SqL K H a (ps.map V.ref) ∧ Rows H ps rows ∧ (rows.map (·.1)).Nodup ∧ (∀ e ∈ rows, e.1.depth ≤ 8) ∧ rows.length ≤ 1000 ∧
  ((∀ e ∈ rows, ∃ ks, e.1 = .tup ks) ∨ ((rows.map fun e => e.1.hash w).Nodup ∧ ∀ e ∈ rows, ∀ x, e.1 ≠ .text x)) ∧
  ∀ p o evs, H p = none → (p == sysModules) = false → EntsV o evs → evs.length = rows.length → (∀ (j : Nat) (k v : V), evs[j]? = some (k, v) → ∃ d k0, rows[j]? = some (d, k0, v) ∧ At H d k) → Q (.ref p) (upd H p (raw p o))
section
variable {X : Cx}
theorem call_dictR (hcalm : X.calm = true) (hu : X.A.units + 64 < cLine) : CallR X (.type "dict") (rDictP X.w X.K) := by
  intro pins s σ H xs us Q I r q
  obtain ⟨a, ps, rows, ex, hq, hp, hnd, hdp, hlr, hcase, q⟩ := q
  subst ex
  obtain ⟨u, eu, rx⟩ := vals1 r
  subst eu
  cases rx
  obtain ⟨its, rv, pl, hz⟩ := I.list hq
  have ei := refs_at rv
  subst ei
  obtain ⟨o, n, ho, hc, hd, hdat⟩ := pl
  have hpl : ps.length = rows.length := Paired.length hp
  have hat : ∀ (j : Nat) (b : Addr) (k v : Value), (ps.map Value.ref).toArray[j]? = some (.ref b) → IsTup s.heap b #[k, v] → ∃ e, rows[j]? = some e ∧ At H e.1 e.2.1 ∧ RelV e.2.1 k ∧ RelV e.2.2 v := fun j b k v hb ht => by
    have hb2 : ps[j]? = some b := by
      rw [List.getElem?_toArray, List.getElem?_map] at hb
      obtain ⟨b', e1, e2⟩ := Option.map_eq_some_iff.mp hb
      cases e2
      exact e1
    obtain ⟨e, he, h1, h2⟩ := paired_get hp hb2
    obtain ⟨its, rv, ht2, _⟩ := I.tuple (show SqT X.K H _ _ from .of h1)
    obtain ⟨uk, uv, ei, rk, ry⟩ := vals2 rv
    subst ei
    obtain ⟨o1, g1, _, n1, d1⟩ := ht
    obtain ⟨o2, g2, _, n2, d2⟩ := ht2
    rw [g1] at g2
    cases g2
    rw [d1] at d2
    injection d2 with d2 _
    have e1 : k = uk := by
      have := congrArg (·[0]?) d2
      simpa using this
    have e2 : v = uv := by
      have := congrArg (·[1]?) d2
      simpa using this
    subst e1 e2
    exact ⟨e, he, h2, rk, ry⟩
  have hts : ∀ j, j < ps.length → ∃ (b : Addr) (k v : Value), (ps.map Value.ref).toArray[j]? = some (.ref b) ∧ IsTup s.heap b #[k, v] := fun j hj => by
    obtain ⟨e, he, h1, h2⟩ := paired_get hp (List.getElem?_eq_getElem hj)
    obtain ⟨its, rv, ht2, _⟩ := I.tuple (show SqT X.K H _ _ from .of h1)
    obtain ⟨uk, uv, ei, rk, ry⟩ := vals2 rv
    subst ei
    exact ⟨ps[j], uk, uv, by rw [List.getElem?_toArray, List.getElem?_map, List.getElem?_eq_getElem hj]; rfl, ht2⟩
  have kd : ∀ i e, rows[i]? = some e → (rows.map (·.1)).take (i + 1) = (rows.map (·.1)).take i ++ [e.1] := fun i e he => by
    rw [List.take_add_one, List.getElem?_map, he]
    rfl
  have fin : ∀ (h' : Heap) (tk : Nat) (o' : Obj) (evs : List (V × V)), h'.get? s.heap.objs.size = some o' → EntsV o' evs → evs.length = rows.length → (∀ (j : Nat) (k v : V), evs[j]? = some (k, v) → ∃ d k0, rows[j]? = some (d, k0, v) ∧ At H d k) → (∀ b o, s.heap.get? b = some o → h'.get? b = some o) →
      EP X pins σ Q (.ref s.heap.objs.size) { s with heap := h', toks := tk } := fun h' tk o' evs hS hE hl hA k =>
    ⟨.ref s.heap.objs.size, _, Inv.rawnew (o := o') (t' := tk) I k (Nat.le_refl _) hS, rfl, q _ o' evs (I.hok.fresh (Nat.le_refl _)) (nosys I (Nat.le_refl _)) hE hl hA⟩
  rcases hcase with htup | ⟨hhash, hnt⟩
  · refine call_dict_pairsG (n := ps.length) (Pd := fun i o => IsND X.prog X.w H o ((rows.map fun e => (e.1, e.2.2)).take i)) (I.ok.hd hcalm) ho hc hd hdat (by simp) (newD_ND _ _ _) hts (fun i k v s1 o1 Q1 b hi hb ht kp hS hP h2 => ?_) fun h' tk o' hS hP k => ?_
    · obtain ⟨e, he, hA, rk, rv⟩ := hat i b k v hb ht
      obtain ⟨ks, eks⟩ := htup e (List.mem_of_getElem? he)
      rw [eks] at hA
      obtain ⟨bk, xs, ek, _⟩ := id hA.of_tup
      rw [ek] at rk hA
      cases rk
      rw [← eks] at hA
      obtain ⟨z, es, ep, xs, g1, g2, g3, g4, r⟩ := hP
      have ok := I.hok.kept kp
      have hdp1 := hdp e (List.mem_of_getElem? he)
      have hlt : ((rows.map fun e => (e.1, e.2.2)).take i).length ≤ 1000 := by rw [List.length_take, List.length_map]; omega
      have hvn : valV ((rows.map fun e => (e.1, e.2.2)).take i) e.1 = none := by
        cases ez : valV ((rows.map fun e => (e.1, e.2.2)).take i) e.1 with
        | none => rfl
        | some v =>
          obtain ⟨j, hj⟩ := List.mem_iff_getElem?.mp (valV_mem ez)
          have hji : j < i := by
            have := (List.getElem?_eq_some_iff.mp hj).1
            rw [List.length_take] at this
            omega
          rw [List.getElem?_take_of_lt hji, List.getElem?_map] at hj
          obtain ⟨e', he', ee⟩ := Option.map_eq_some_iff.mp hj
          have ee1 : e'.1 = e.1 := congrArg (·.1) ee
          have := nodup_ixG hnd (show (rows.map (·.1))[j]? = some e.1 by rw [List.getElem?_map, he', ← ee1]; rfl) (show (rows.map (·.1))[i]? = some e.1 by rw [List.getElem?_map, he]; rfl)
          omega
      refine wpAny_dictSet_heap (knd := nestedKind X.prog X.w) (show (nestedKind X.prog X.w).room _ from by show X.A.units + 1 + 1 + 8 < cLine; omega) (key_is ok hA hdp1) ⟨o1, es, ep, hS, g1, g2, g3, ent_is ok r, g4⟩ (fun h' dd' hsb => ?_) (by rw [← r.length, sizeLine_eq]; omega)
      have hln : (putK ((rows.map fun e => (e.1, e.2.2)).take i) e.1 e.2.2).length ≤ sizeLine := by
        have := length_putK ((rows.map fun e => (e.1, e.2.2)).take i) e.1 e.2.2
        rw [sizeLine_eq]
        omega
      obtain ⟨o', ho', hi'⟩ := isND_of (H := H) hln (r.put hA hdp1 rv) dd'
      refine h2 h' _ o' ho' ?_ fun c oc hcS ec => (hsb.2 c hcS).trans ec
      rw [putK_new _ hvn] at hi'
      rw [List.take_add_one, List.getElem?_map, he]
      exact hi'
    · rw [List.take_of_length_le (by rw [List.length_map]; omega)] at hP
      obtain ⟨z, es, ep, xs, g1, g2, g3, g4, r⟩ := hP
      have go : ∀ {kvs : List (D × V)} {xs : List (D × Addr × Value)}, Ent H kvs xs → ∃ evs : List (V × V), Paired (fun (p : V × V) (e : DictEntry) => RelV p.1 e.key ∧ RelV p.2 e.val) evs (xs.map (entryOfKey (nestedKind X.prog X.w))) ∧ evs.length = kvs.length ∧ ∀ (j : Nat) (k v : V), evs[j]? = some (k, v) → ∃ d, kvs[j]? = some (d, v) ∧ At H d k := by
        intro kvs xs r
        unfold Ent at r
        induction r with
        | nil => exact ⟨[], .nil, rfl, fun j k v e => by simp at e⟩
        | @cons p q ps qs h t ih =>
          obtain ⟨h1, ⟨h2, _⟩, h3⟩ := h
          obtain ⟨evs, r1, r2, r3⟩ := ih
          refine ⟨(.ref q.2.1, p.2) :: evs, .cons ⟨rfl, h3⟩ r1, by rw [List.length_cons, List.length_cons, r2], fun j k v e => ?_⟩
          cases j with
          | zero =>
            have e := Option.some.inj e
            injection e with e1 e2
            subst e1 e2
            exact ⟨p.1, rfl, h2⟩
          | succ j => exact r3 j k v (by simpa using e)
      obtain ⟨evs, r1, r2, r3⟩ := go r
      refine fin h' tk o' evs hS ⟨es, ep, g1, g2, by rw [g3]; exact r1⟩ (by rw [r2, List.length_map]) (fun j k v e => ?_) k
      obtain ⟨d, hd', hA⟩ := r3 j k v e
      rw [List.getElem?_map] at hd'
      obtain ⟨e', he', ee⟩ := Option.map_eq_some_iff.mp hd'
      injection ee with e1 e2
      subst e1 e2
      exact ⟨_, _, he', hA⟩
  · refine call_dict_pairsG (n := ps.length) (Pd := fun i o => RawK X.w o ((rows.map (·.1)).take i) ((rows.map (·.2)).take i)) (I.ok.hd hcalm) ho hc hd hdat (by simp) (.new _) hts (fun i k v s1 o1 Q1 b hi hb ht kp hS hP h2 => ?_) fun h' tk o' hS hP k => ?_
    · obtain ⟨e, he, hA, rk, rv⟩ := hat i b k v hb ht
      obtain ⟨es, ep, hx, hdt, hpr, hhs⟩ := hP
      have ok := I.hok.kept kp
      have hdp1 := hdp e (List.mem_of_getElem? he)
      have hnt1 := hnt e (List.mem_of_getElem? he)
      have hlen : es.toList.length = i := by
        have := congrArg List.length hhs
        rw [List.length_map, List.length_map, List.length_take, List.length_map] at this
        omega
      have hnd2 : e.1.hash X.w ∉ ((rows.map (·.1)).take i).map (·.hash X.w) := fun z => by
        obtain ⟨d, hd', ez⟩ := List.mem_map.mp z
        obtain ⟨j, hj⟩ := List.mem_iff_getElem?.mp hd'
        have hji : j < i := by
          have := (List.getElem?_eq_some_iff.mp hj).1
          rw [List.length_take] at this
          omega
        rw [List.getElem?_take_of_lt hji, List.getElem?_map] at hj
        obtain ⟨e', he', ee⟩ := Option.map_eq_some_iff.mp hj
        have := nodup_ixG hhash (show (rows.map fun e => e.1.hash X.w)[j]? = some (e.1.hash X.w) by rw [List.getElem?_map, he', ← ez, ← ee]; rfl) (show (rows.map fun e => e.1.hash X.w)[i]? = some (e.1.hash X.w) by rw [List.getElem?_map, he]; rfl)
        omega
      have hno : ∀ e' ∈ es, e'.hash ≠ e.1.hash X.w := fun e' he' z => hnd2 (by
        rw [← hhs, ← z]
        exact List.mem_map.mpr ⟨e', Array.mem_toList_iff.mpr he', rfl⟩)
      have hne : ∀ e' ∈ es, e'.key ≠ k := fun e' he' z => by
        obtain ⟨j, hj⟩ := List.mem_iff_getElem?.mp (Array.mem_toList_iff.mpr he')
        have hji : j < i := by
          have := (List.getElem?_eq_some_iff.mp hj).1
          omega
        have hjr : j < rows.length := by omega
        obtain ⟨y, hy, ry, _⟩ := paired_get hpr (x := rows[j].2) (by rw [List.getElem?_take_of_lt hji, List.getElem?_map, List.getElem?_eq_getElem hjr]; rfl)
        rw [hj] at hy
        obtain rfl := Option.some.inj hy
        have aj : At H rows[j].1 rows[j].2.1 := by
          have hpj : j < ps.length := by omega
          obtain ⟨e2, he2, _, h2⟩ := paired_get hp (List.getElem?_eq_getElem hpj)
          rw [List.getElem?_eq_getElem hjr] at he2
          obtain rfl := Option.some.inj he2
          exact h2
        rw [z] at ry
        rw [ry.inj rk] at aj
        have := At.inj _ _ _ aj hA
        have := nodup_ixG hnd (show (rows.map (·.1))[j]? = some e.1 by rw [List.getElem?_map, List.getElem?_eq_getElem hjr, ← this]; rfl) (show (rows.map (·.1))[i]? = some e.1 by rw [List.getElem?_map, he]; rfl)
        omega
      have hu2 : X.A.in1.in1.units + 8 < cLine := by show X.A.units + 1 + 1 + 8 < cLine; omega
      have ns := (hash_ofK (prog := X.prog) (w := X.w) (A := X.A.in1.in1) (E := X.xe) (Q := fun _ _ => True) hu2 ok hA hdp1 hnt1 rk (fun _ => True.intro)).1
      unfold dictSet
      refine wpAny_holding (wpAny_bind (hash_ofK hu2 ok hA hdp1 hnt1 rk fun t => ?_).2)
      refine put_fresh (s := { s1 with toks := t }) hS hdt ns hno hne (by rw [← Array.length_toList, hlen]; omega) ?_
      refine h2 _ t _ (Heap.get?_update_self (Obj.mapDictKeys (·.push ⟨e.1.hash X.w, k, v⟩)) hS (Obj.isFreed_of_dict (Obj.data_mapDictKeys hdt _))) ?_ fun c oc hcS ec => ((Heap.SameBut.update ..).2 c hcS).trans ec
      refine ⟨_, ep + 1, hx.mapDictKeys _, Obj.data_mapDictKeys hdt _, ?_, ?_⟩
      · rw [Array.toList_push, List.take_add_one, List.getElem?_map, he]
        exact Paired.snoc hpr ⟨rk, rv⟩
      · rw [Array.toList_push, List.map_append, hhs, kd i e he, List.map_append]
        rfl
    · rw [List.take_of_length_le (by rw [List.length_map]; omega), List.take_of_length_le (by rw [List.length_map]; omega)] at hP
      refine fin h' tk o' (rows.map (·.2)) hS hP.ents (by rw [List.length_map]) (fun j k v e => ?_) k
      rw [List.getElem?_map] at e
      obtain ⟨e', he', ee⟩ := Option.map_eq_some_iff.mp e
      have hjp : j < ps.length := by
        have := (List.getElem?_eq_some_iff.mp he').1
        omega
      obtain ⟨e2, he2, _, h2⟩ := paired_get hp (List.getElem?_eq_getElem hjp)
      rw [he'] at he2
      obtain rfl := Option.some.inj he2
      obtain ⟨d0, k0, v0⟩ := e'
      have ee : (k0, v0) = (k, v) := ee
      injection ee with e1 e2
      subst e1 e2
      exact ⟨_, _, he', h2⟩
theorem dictRK {K : PySem.W.Frag} {w : World} (q : X.K = K) (z : X.w = w) (hcalm : X.calm = true) (hu : X.A.units + 64 < cLine) : CallR X (.type "dict") (rDictP w K) := by
  subst q z
  exact call_dictR hcalm hu
end
end Lt

namespace Lt
open PySem PySem.Spec PyProof.Rows L2
def top (i : Nat) : Stmt := PySem.Challenge.pw_lietable_k05_refused.main.body.getD i (.Pass ⟨0, 0, 0, 0⟩)

/-! the readings made plain -/
local macro_rules | `(tactic| walk_at "rd") => `(tactic| simp (config := {decide := true}) only [tSeq, tAsg, gName, tC, tVar, tOp, tUn, rI0, rI, rU, tLst, tTup, tNil, tCons, tCB, tTest, tB, tIfS, tRet, tNext, tDrop, tAnd, tOr, tNot, tAndV, tOrV, tNotV, tIf, tSl, tPart, tNoPart, L2.start, List.map, List.length_cons, List.length_nil, List.replicate, List.set_cons_succ, List.set_cons_zero, List.cons_append, List.nil_append, List.append_nil, List.getElem?_cons_succ, List.getElem?_cons_zero, exists_eq_left', Option.some.injEq, V.int.injEq, V.str.injEq, V.bl.injEq, V.ref.injEq, List.cons.injEq, exists_and_left, exists_eq_left, true_and, and_true, and_self, and_assoc, rIxS, rMulS, rEq, rNe, scal_int, scal_str, scal_bl, CDiv, CMul, Nat.zero_le, true_or, or_true, Nat.zero_add, Nat.reduceAdd, Nat.reduceSub, Int.zero_add, tCall, tYes, wipe, reduceIte, if_true, if_false, Bool.false_eq_true, tBM, tBM0, rAppend, gSub, rSetL, tNGet, sNPut, tNGet2, tNNew])
/-! the readings made plain, walks and comprehensions too -/
def LoopF (J : It) (g : TG) (tb : TS) (D : Ends) (σ : L2.St) (H1 : Hp) : Prop := ∃ W : Nat → Nat → L2.St → Hp → Prop, (∃ m, W 0 m σ H1) ∧ ∀ i m σ H, W i m σ H →
  (J.stop i H ∧ D.nx σ H) ∨ (J.go i H ∧ ∃ N : L2.St → Hp → Prop, (∀ σ' H', N σ' H' → ∃ m', m' < m ∧ W (i + 1) m' σ' H') ∧ ∀ x H', J.yld i H x H' → g x σ H' fun σ2 H2 => tb { D with nx := N, ct := N, bk := D.nx } σ2 H2)
theorem for_eq {ti : TI} {g : TG} {tb : TS} {D : Ends} {σ : L2.St} {H : Hp} : tFor ti g tb D σ H = ti σ H fun J H1 => LoopF J g tb D σ H1 := rfl
def LoopC (J : It) (g : TG) (tt : TT) (te : TE) (vs : List Nat) (σ : L2.St) (H1 : Hp) (D : Addr) (Q : VK) : Prop := ∃ W : Nat → Nat → Hp → Prop, (∃ m, W 0 m (L2.upd H1 D (.lst []))) ∧ ∀ i m H, W i m H →
  (J.stop i H ∧ Q (.ref D) H) ∨ (J.go i H ∧ ∃ Nx : Hp → Prop, (∀ H', Nx H' → ∃ m', m' < m ∧ W (i + 1) m' H') ∧ ∀ x H', J.yld i H x H' → g x (wipe σ vs) H' fun σ2 H2 => wipe σ2 vs = wipe σ vs ∧ tt σ2 H2 fun b H3 =>
    if b = true then te σ2 H3 fun y H4 => ∃ acc, H4 D = some (.lst acc) ∧ acc.length < sizeLine ∧ Nx (L2.upd H4 D (.lst (acc ++ [y]))) else Nx H3)
theorem lc_eq {wi : TI} {g : TG} {tt : TT} {te : TE} {vs : List Nat} {σ : L2.St} {H : Hp} {Q : VK} : tLc wi g tt te vs σ H Q = wi σ H fun J H1 => ∀ D, H1 D = none → LoopC J g tt te vs σ H1 D Q := rfl
local macro_rules | `(tactic| walk_at "rg") => `(tactic| simp (config := {decide := true}) only [for_eq, lc_eq, lc2_eq, dc1_eq, dc2_eq, tCallS, tMakeS, tMake, tNClear, tAllL, tAllI, tLenSetT, iNItems, iEnumA, tMethE, tMeth, tFld, sFld, sFldAug, rAdd, iStr, iEnum, iPerm, tChain, tLstRg, tRg1, tRg2, iRng1, iRng2, iList, iTup, iNKeys, List.getElem?_nil, List.length_nil, StX.tStar, rCatT, gTup, gCons, gNil, tSeq, tAsg, gName, tC, tVar, tOp, tUn, rI0, rI, rU, tLst, tTup, tNil, tCons, tCB, tTest, tB, tIfS, tRet, tNext, tDrop, tAnd, tOr, tNot, tAndV, tOrV, tNotV, tIf, tSl, tPart, tNoPart, L2.start, List.map, List.length_cons, List.length_nil, List.replicate, List.set_cons_succ, List.set_cons_zero, List.cons_append, List.nil_append, List.append_nil, List.getElem?_cons_succ, List.getElem?_cons_zero, exists_eq_left', Option.some.injEq, V.int.injEq, V.str.injEq, V.bl.injEq, V.ref.injEq, List.cons.injEq, exists_and_left, exists_eq_left, true_and, and_true, and_self, and_assoc, rIxS, rMulS, rEq, rNe, scal_int, scal_str, scal_bl, CDiv, CMul, Nat.zero_le, true_or, or_true, Nat.zero_add, Nat.reduceAdd, Nat.reduceSub, Int.zero_add, tCall, tYes, wipe, reduceIte, if_true, if_false, Bool.false_eq_true, tBM, tBM0, rAppend, gSub, rSetL, tNGet, sNPut, tNGet2, tNNew])
/-! ### votes as plain functions -/
def voteM (ss : List (Option Str)) : Option Str := match ss.find? (fun x => decide (ss.length < 2 * ss.count x)) with
  | some x => x
  | none => none
theorem count_two {α : Type} [BEq α] [LawfulBEq α] {x y : α} (h : x ≠ y) : ∀ l : List α, l.count x + l.count y ≤ l.length
  | [] => by simp
  | a :: l => by
    have ih := count_two h l
    rw [List.count_cons, List.count_cons, List.length_cons]
    by_cases e : a = x
    · have e2 : ¬ a = y := fun z => h (e.symm.trans z)
      have b1 : (a == x) = true := by simp [e]
      have b2 : (a == y) = false := by simp [e2]
      rw [b1, b2]
      simp
      omega
    · by_cases e2 : a = y
      · have b1 : (a == x) = false := by simp [e]
        have b2 : (a == y) = true := by simp [e2]
        rw [b1, b2]
        simp
        omega
      · have b1 : (a == x) = false := by simp [e]
        have b2 : (a == y) = false := by simp [e2]
        rw [b1, b2]
        simp
        omega
theorem voteM_of {ss : List (Option Str)} {x : Option Str} (hx : ss.length < 2 * ss.count x) : voteM ss = x := by
  have hm : x ∈ ss := List.count_pos_iff.mp (by omega)
  unfold voteM
  cases q : ss.find? (fun x => decide (ss.length < 2 * ss.count x)) with
  | none =>
    have := List.find?_eq_none.mp q x hm
    simp only [decide_eq_true_eq] at this
    exact absurd hx this
  | some y =>
    have hy := List.find?_some q
    simp only [decide_eq_true_eq] at hy
    show y = x
    by_cases e : x = y
    · exact e.symm
    · have := count_two e ss
      omega
theorem voteM_none {ss : List (Option Str)} (h : ∀ x ∈ ss, ¬ ss.length < 2 * ss.count x) : voteM ss = none := by
  unfold voteM
  rw [List.find?_eq_none.mpr (fun x hx => by simpa using h x hx)]
theorem voteM_mem {ss : List (Option Str)} {x : Str} (h : voteM ss = some x) : some x ∈ ss := by
  unfold voteM at h
  cases q : ss.find? (fun x => decide (ss.length < 2 * ss.count x)) with
  | none => rw [q] at h; cases h
  | some y =>
    rw [q] at h
    have h : y = some x := h
    rw [← h]
    exact List.mem_of_find?_eq_some q
/-- what vote has counted -/
structure Told (l : List (Option Str)) (kvs : List (Option Str × V)) : Prop where
  val : ∀ k, valV kvs k = if l.count k = 0 then none else some (.int (l.count k : Int))
  len : kvs.length ≤ l.length
theorem Told.nil : Told [] [] := ⟨fun k => by simp [valV], Nat.le_refl _⟩
theorem Told.step {l : List (Option Str)} {kvs : List (Option Str × V)} (t : Told l kvs) (y : Option Str) : Told (l ++ [y]) (putK kvs y (.int ((l.count y : Int) + 1))) := by
  refine ⟨fun k => ?_, ?_⟩
  · rw [valV_put, t.val k, List.count_append]
    by_cases e : k = y
    · subst e
      simp
    · rw [if_neg e]
      have : List.count k [y] = 0 := by
        simp [List.count_cons, Ne.symm e]
      rw [this]
      simp
  · have := length_putK kvs y (.int ((l.count y : Int) + 1))
    have := t.len
    simp
    omega
def spVote (K : PySem.W.Frag) : Sp := fun vs H Q _ => ∃ (a : Addr) (ss : List (Option Str)), vs = [.ref a] ∧ SqL K H a (ss.map sg) ∧ ss.length ≤ 1000 ∧ ∀ H', Le H H' → Q (sg (voteM ss)) H'
theorem cutV_mem {xs : List V} {lo hi : Option Int} {x : V} (h : x ∈ cutV xs lo hi) : x ∈ xs := by
  unfold cutV at h
  exact List.mem_of_mem_drop (List.mem_of_mem_take h)
theorem strs_sg (ss : List Str) : ss.map V.str = (ss.map some).map sg := by rw [List.map_map]; rfl
/-! ### paths as plain functions -/
def pk (p : List Int) : D := .tup (p.map .num)
theorem nums_inj : ∀ {p q : List Int}, p.map NestedKey.num = q.map .num → p = q
  | [], [], _ => rfl
  | [], _ :: _, h => by simp at h
  | _ :: _, [], h => by simp at h
  | x :: p, y :: q, h => by
    rw [List.map_cons, List.map_cons] at h
    injection h with h1 h2
    injection h1 with h1
    rw [h1, nums_inj h2]
theorem pk_inj {p q : List Int} (h : pk p = pk q) : p = q := by
  injection h with h
  exact nums_inj h
theorem pk_at {H : Hp} {b : Addr} {p : List Int} (h : H b = some (.tup (p.map .int))) : At H (pk p) (.ref b) := At.tup h (ats_ints p)
theorem pk_of {H : Hp} {v : V} {p : List Int} (h : At H (pk p) v) : ∃ b, v = .ref b ∧ H b = some (.tup (p.map .int)) := by
  obtain ⟨b, xs, e, hb, hs⟩ := h.of_tup
  exact ⟨b, e, by rw [hb, hs.ints]⟩
theorem nums_depth : ∀ p : List Int, NestedKey.depthAll (p.map .num) ≤ 1
  | [] => by rw [List.map_nil, NestedKey.depthAll]; exact Nat.zero_le _
  | x :: p => by
    rw [List.map_cons, NestedKey.depthAll, NestedKey.depth]
    have := nums_depth p
    omega
theorem pk_depth (p : List Int) : (pk p).depth ≤ 8 := by
  unfold pk
  rw [NestedKey.depth]
  have := nums_depth p
  omega
/-- the hearers of a path -/
def hear (n : Nat) (p : List Int) : List Int := ((List.range n).map Int.ofNat).filter fun x => decide (x ∉ p)
def growM (n : Nat) (ps : List (List Int)) : List (List Int) := (ps.map fun p => (hear n p).map fun h => p ++ [h]).flatten
def lvlM (n : Nat) : Nat → List (List Int)
  | 0 => [[0]]
  | k + 1 => growM n (lvlM n k)
def pathsM (n k : Nat) : List (List Int) := (lvlM n (min k (n - 1) - 1)).filter fun p => decide (p.length = k)
/-- a path among n -/
structure IsP (n : Nat) (p : List Int) : Prop where
  hd : p.head? = some 0
  nd : p.Nodup
  mem : ∀ x ∈ p, 0 ≤ x ∧ x < n
theorem mem_hear {n : Nat} {p : List Int} {x : Int} : x ∈ hear n p ↔ (0 ≤ x ∧ x < n) ∧ x ∉ p := by
  unfold hear
  rw [List.mem_filter, List.mem_map, decide_eq_true_eq]
  refine ⟨fun ⟨⟨i, hi, e⟩, h⟩ => ⟨?_, h⟩, fun ⟨⟨h0, h1⟩, h⟩ => ⟨⟨x.toNat, List.mem_range.mpr (by omega), Int.toNat_of_nonneg h0⟩, h⟩⟩
  have := List.mem_range.mp hi
  subst e
  exact ⟨Int.natCast_nonneg i, Int.ofNat_lt.mpr this⟩
theorem hear_length (n : Nat) (p : List Int) : (hear n p).length ≤ n := by
  unfold hear
  refine Nat.le_trans (List.length_filter_le _ _) ?_
  rw [List.length_map, List.length_range]
  exact Nat.le_refl _
theorem IsP.add {n : Nat} {p : List Int} {x : Int} (h : IsP n p) (hx : x ∈ hear n p) : IsP n (p ++ [x]) := by
  obtain ⟨hr, hn⟩ := mem_hear.mp hx
  refine ⟨?_, ?_, fun y hy => ?_⟩
  · cases p with
    | nil => have := h.hd; simp at this
    | cons a t => exact h.hd
  · rw [List.nodup_append]
    refine ⟨h.nd, List.nodup_cons.mpr ⟨by simp, List.nodup_nil⟩, fun a ha b hb e => ?_⟩
    rw [List.mem_singleton] at hb
    subst hb
    exact hn (e ▸ ha)
  · rcases List.mem_append.mp hy with h' | h'
    · exact h.mem y h'
    · rw [List.mem_singleton.mp h']
      exact hr
theorem IsP.pos {n : Nat} {p : List Int} (h : IsP n p) : 1 ≤ p.length := by
  cases p with
  | nil => have := h.hd; simp at this
  | cons a t => simp
theorem IsP.n_pos {n : Nat} {p : List Int} (h : IsP n p) : 1 ≤ n := by
  cases p with
  | nil => have := h.hd; simp at this
  | cons a t =>
    have := h.mem a (by simp)
    omega
theorem IsP.zero {n : Nat} (h : 1 ≤ n) : IsP n [0] := ⟨rfl, by simp, fun x hx => by rw [List.mem_singleton.mp hx]; omega⟩
theorem mem_grow {n : Nat} {ps : List (List Int)} {p : List Int} : p ∈ growM n ps ↔ ∃ q ∈ ps, ∃ x ∈ hear n q, p = q ++ [x] := by
  unfold growM
  rw [List.mem_flatten]
  refine ⟨fun ⟨l, hl, hp⟩ => ?_, fun ⟨q, hq, x, hx, e⟩ => ⟨_, List.mem_map.mpr ⟨q, hq, rfl⟩, List.mem_map.mpr ⟨x, hx, e.symm⟩⟩⟩
  obtain ⟨q, hq, rfl⟩ := List.mem_map.mp hl
  obtain ⟨x, hx, e⟩ := List.mem_map.mp hp
  exact ⟨q, hq, x, hx, e.symm⟩
theorem mem_lvl {n : Nat} (hn : 1 ≤ n) : ∀ {k : Nat} {p : List Int}, p ∈ lvlM n k ↔ IsP n p ∧ p.length = k + 1
  | 0, p => by
    rw [lvlM, List.mem_singleton]
    refine ⟨fun e => e ▸ ⟨.zero hn, rfl⟩, fun ⟨h, hl⟩ => ?_⟩
    cases p with
    | nil => simp at hl
    | cons a t =>
      cases t with
      | nil =>
        have := h.hd
        simp at this
        rw [this]
      | cons b t => simp at hl
  | k + 1, p => by
    rw [lvlM, mem_grow]
    refine ⟨fun ⟨q, hq, x, hx, e⟩ => ?_, fun ⟨h, hl⟩ => ?_⟩
    · obtain ⟨h1, h2⟩ := (mem_lvl hn).mp hq
      subst e
      exact ⟨h1.add hx, by rw [List.length_append, h2]; rfl⟩
    · have hne : p ≠ [] := fun e => by subst e; simp at hl
      have e := List.dropLast_concat_getLast hne
      generalize hq : p.dropLast = q at e
      generalize hx : p.getLast hne = x at e
      subst e
      have hql : q.length = k + 1 := by
        rw [List.length_append] at hl
        simp at hl
        exact hl
      have hnd := List.nodup_append.mp h.nd
      have hq' : IsP n q := by
        refine ⟨?_, hnd.1, fun y hy => h.mem y (List.mem_append_left _ hy)⟩
        have := h.hd
        cases q with
        | nil => simp at hql
        | cons a t => exact this
      refine ⟨q, (mem_lvl hn).mpr ⟨hq', hql⟩, x, mem_hear.mpr ⟨h.mem x (by simp), fun hm => hnd.2.2 x hm x (by simp) rfl⟩, rfl⟩
theorem mem_paths {n k : Nat} (hn : 2 ≤ n) (hk : 1 ≤ k) {p : List Int} : p ∈ pathsM n k ↔ IsP n p ∧ p.length = k ∧ k ≤ n - 1 := by
  unfold pathsM
  rw [List.mem_filter, decide_eq_true_eq, mem_lvl (by omega)]
  refine ⟨fun ⟨⟨h1, h2⟩, h3⟩ => ⟨h1, h3, by omega⟩, fun ⟨h1, h2, h3⟩ => ⟨⟨h1, by omega⟩, h2⟩⟩
theorem nodup_len : ∀ (k : Nat) (p : List Int), p.Nodup → (∀ x ∈ p, 0 ≤ x ∧ x < k) → p.length ≤ k
  | 0, [], _, _ => Nat.le_refl _
  | 0, a :: t, _, h => by have := h a (by simp); omega
  | k + 1, p, nd, h => by
    have q := nodup_len k (p.erase k) (nd.erase (k : Int)) fun x hx => by
      have h1 := (nd.mem_erase_iff).mp hx
      have h2 := h x h1.2
      have : x ≠ k := h1.1
      omega
    have := List.length_erase (a := (k : Int)) (l := p)
    split at this <;> omega
/-! ### small things on lists -/
theorem inV_ints {x : Int} : ∀ p : List Int, inV (.int x) (p.map .int) = decide (x ∈ p)
  | [] => rfl
  | a :: p => by
    have ih := inV_ints (x := x) p
    unfold inV at ih ⊢
    rw [List.map_cons, List.any_cons, ih]
    have e : (a == x) = decide (x = a) := by
      by_cases h : x = a
      · simp [h]
      · simp [h, Ne.symm h]
    simp [eqV, e]
theorem ints_flat (p : List Int) : (p.map V.int).all flatV = true := by
  rw [List.all_map, List.all_eq_true]
  intro o _
  rfl
theorem fm_if {α β : Type} (P : α → Prop) [DecidablePred P] (g : α → β) : ∀ l : List α, l.filterMap (fun i => if P i then some (g i) else none) = (l.filter fun i => decide (P i)).map g
  | [] => rfl
  | a :: l => by
    rw [List.filterMap_cons, List.filter_cons, fm_if P g l]
    by_cases h : P a
    · rw [if_pos h, decide_eq_true h]
      rfl
    · rw [if_neg h, decide_eq_false h]
      rfl
theorem fm_get {α β : Type} (g : α → Option β) : ∀ l : List α, (List.range l.length).filterMap (fun i => l[i]?.bind g) = l.filterMap g
  | [] => rfl
  | a :: l => by
    rw [List.length_cons, List.range_succ_eq_map, List.filterMap_cons, List.filterMap_cons, List.filterMap_map]
    have e : ((fun i => (a :: l)[i]?.bind g) ∘ Nat.succ) = fun i => l[i]?.bind g := by
      funext i
      simp
    rw [e, fm_get g l]
    rfl
theorem fm_get' {α β : Type} (g : α → Option β) {l : List α} {n : Nat} (h : n = l.length) : (List.range n).filterMap (fun i => l[i]?.bind g) = l.filterMap g := by
  subst h
  exact fm_get g l
theorem ats_flat {H : Hp} : ∀ {dss : List (List D)} {xss : List (List V)}, xss.length = dss.length → (∀ (j : Nat) (xs : List V), xss[j]? = some xs → Ats H (dss[j]?.getD []) xs) → Ats H dss.flatten xss.flatten
  | [], [], _, _ => Ats.nil
  | d :: dss, xs :: xss, hl, h => by
    rw [List.flatten_cons, List.flatten_cons]
    exact Ats.app (h 0 xs rfl) (ats_flat (by simpa using hl) fun j ys hj => by simpa using h (j + 1) ys (by simpa using hj))
  | [], _ :: _, hl, _ => by simp at hl
  | _ :: _, [], hl, _ => by simp at hl
theorem grow_length (n : Nat) : ∀ ps : List (List Int), (growM n ps).length ≤ ps.length * n
  | [] => by simp [growM]
  | p :: ps => by
    have := grow_length n ps
    have h2 := hear_length n p
    unfold growM at this ⊢
    rw [List.map_cons, List.flatten_cons, List.length_append, List.length_map, List.length_cons, Nat.add_mul]
    omega
theorem lvl_length (n : Nat) : ∀ k : Nat, (lvlM n k).length ≤ n ^ k
  | 0 => by rw [lvlM]; exact Nat.le_refl _
  | k + 1 => by
    rw [lvlM]
    refine Nat.le_trans (grow_length n _) ?_
    rw [Nat.pow_succ]
    exact Nat.mul_le_mul_right n (lvl_length n k)
theorem lvl_small {n k : Nat} (hn : n ≤ 10) (hk : k ≤ 2) : (lvlM n k).length ≤ 100 := by
  refine Nat.le_trans (lvl_length n k) (Nat.le_trans (Nat.pow_le_pow_left hn k) ?_)
  exact Nat.le_trans (Nat.pow_le_pow_right (by decide) hk) (by decide)
theorem paths_length {n k : Nat} (hn : n ≤ 10) (hk : k ≤ 3) : (pathsM n k).length ≤ 100 := by
  unfold pathsM
  exact Nat.le_trans (List.length_filter_le _ _) (lvl_small hn (by omega))
theorem hear_fm (n : Nat) (p : List Int) : (List.range n).filterMap (fun i : Nat => if (i : Int) ∉ p then some (NestedKey.num (i : Int)) else none) = (hear n p).map .num := by
  rw [fm_if (fun i : Nat => (i : Int) ∉ p) (fun i : Nat => NestedKey.num (i : Int))]
  unfold hear
  rw [List.filter_map, List.map_map]
  rfl
theorem hear_fm2 (n : Nat) (p : List Int) : (List.range n).filterMap (fun i : Nat => if (i : Int) ∉ p then some (pk (p ++ [(i : Int)])) else none) = (hear n p).map fun h => pk (p ++ [h]) := by
  rw [fm_if (fun i : Nat => (i : Int) ∉ p) (fun i : Nat => pk (p ++ [(i : Int)]))]
  unfold hear
  rw [List.filter_map, List.map_map]
  rfl
theorem dec_int {i j : Int} : decide (V.int i = V.int j) = decide (i = j) := decide_eq_decide.mpr ⟨fun h => by injection h, fun h => by rw [h]⟩
theorem lvl_flat (n i : Nat) : ((lvlM n i).map fun p => (hear n p).map fun h => pk (p ++ [h])).flatten = (lvlM n (i + 1)).map pk := by
  rw [lvlM, growM, List.map_flatten, List.map_map]
  congr 1
  refine List.map_congr_left fun p _ => ?_
  show _ = List.map pk (List.map _ _)
  rw [List.map_map]
  rfl
theorem map_get {α β : Type} (f : α → List β) : ∀ l : List α, (List.range l.length).map (fun i => (l[i]?.map f).getD []) = l.map f
  | [] => rfl
  | a :: l => by
    rw [List.length_cons, List.range_succ_eq_map, List.map_cons, List.map_cons, List.map_map]
    have e : ((fun i => ((a :: l)[i]?.map f).getD []) ∘ Nat.succ) = fun i => (l[i]?.map f).getD [] := by
      funext i
      simp
    rw [e, map_get f l]
    rfl
theorem flat_len {α : Type} {c : Nat} : ∀ {l : List (List α)}, (∀ x ∈ l, x.length ≤ c) → l.flatten.length ≤ l.length * c
  | [], _ => by simp
  | a :: l, h => by
    have h1 := h a (by simp)
    have h2 := flat_len (l := l) fun x hx => h x (by simp [hx])
    rw [List.flatten_cons, List.length_append, List.length_cons, Nat.add_mul]
    omega
def lastM (p : List Int) : Int := p.getLast?.getD 0
theorem at_lastM {p : List Int} (h : 1 ≤ p.length) : atI (p.map V.int) (-1) = some (.int (lastM p)) := by
  have hne : p ≠ [] := fun e => by rw [e] at h; exact absurd h (by decide)
  have e := List.dropLast_concat_getLast hne
  rw [← e, List.map_append]
  unfold lastM
  rw [List.getLast?_concat]
  exact atI_last _ _
/-! ### what a hand settles on -/
def settM (tf : List Int → Option Str) (n : Nat) (hand : Int) : Nat → List Int → Option Str
  | 0, p => tf p
  | d + 1, p => voteM (tf p :: ((hear n p).filter fun o => decide (o ≠ hand)).map fun o => settM tf n hand d (p ++ [o]))
/-- the dict at t tells of each path without the hand -/
def Hold (P : Program) (w : World) (H : Hp) (t : Addr) (n m : Nat) (hand : Int) (tf : List Int → Option Str) : Prop :=
  ∃ kvs, ND P w H t kvs ∧ ∀ q, IsP n q → hand ∉ q → q.length ≤ m + 1 → valV kvs (pk q) = some (sg (tf q))
theorem Hold.le {P : Program} {w : World} {H H' : Hp} {t : Addr} {n m : Nat} {hand : Int} {tf : List Int → Option Str} (h : Hold P w H t n m hand tf) (l : Le H H') : Hold P w H' t n m hand tf :=
  let ⟨kvs, e, k⟩ := h; ⟨kvs, e.le l, k⟩
theorem Hold.dg {P : Program} {w : World} {H : Hp} {t b : Addr} {n m : Nat} {hand : Int} {tf : List Int → Option Str} (h : Hold P w H t n m hand tf) {p : List Int} (hb : H b = some (.tup (p.map .int))) (hp : IsP n p) (hh : hand ∉ p) (hl : p.length ≤ m + 1) : DG P w H t (.ref b) (some (sg (tf p))) :=
  let ⟨kvs, e, k⟩ := h; .inr ⟨kvs, pk p, b, e, rfl, pk_at hb, pk_depth p, (k p hp hh hl).symm⟩
def spSettled (P : Program) (w : World) (E : Nat) : Sp := fun vs H Q _ => ∃ (n m d : Nat) (t b : Addr) (hand : Int) (p : List Int) (tf : List Int → Option Str), d < E ∧ vs = [.int n, .int m, .ref t, .int hand, .ref b] ∧ n ≤ 100 ∧ H b = some (.tup (p.map .int)) ∧ IsP n p ∧ hand ∉ p ∧ p.length + d = m + 1 ∧
  Hold P w H t n m hand tf ∧ ∀ H', Le H H' → Q (sg (settM tf n hand d p)) H'
theorem spSettled_len {P : Program} {w : World} {E : Nat} {vs : List V} {H : Hp} {Q : VK} {X : XK} (h : spSettled P w E vs H Q X) : vs.length = 5 := by
  obtain ⟨_, _, _, _, _, _, _, _, _, e, _⟩ := h
  rw [e]
  rfl
/-- what is heard of the first i -/
def saidM (tf : List Int → Option Str) (n : Nat) (hand : Int) (d : Nat) (p : List Int) (os : List Int) : List (Option Str) := (os.filter fun o => decide (o ≠ hand)).map fun o => settM tf n hand d (p ++ [o])
theorem said_snoc (tf : List Int → Option Str) (n : Nat) (hand : Int) (d : Nat) (p : List Int) (os : List Int) (x : Int) : saidM tf n hand d p (os ++ [x]) = if x = hand then saidM tf n hand d p os else saidM tf n hand d p os ++ [settM tf n hand d (p ++ [x])] := by
  unfold saidM
  rw [List.filter_append, List.map_append]
  by_cases h : x = hand
  · rw [if_pos h]
    simp [h]
  · rw [if_neg h]
    simp [h]
theorem said_length (tf : List Int → Option Str) (n : Nat) (hand : Int) (d : Nat) (p : List Int) (os : List Int) : (saidM tf n hand d p os).length ≤ os.length := by
  unfold saidM
  rw [List.length_map]
  exact List.length_filter_le _ _
theorem others_fm (n : Nat) (p : List Int) (hand : Int) : (List.range n).filterMap (fun i : Nat => if (i : Int) ∉ p ∧ (i : Int) ≠ hand then some (NestedKey.num (i : Int)) else none) = ((hear n p).filter fun o => decide (o ≠ hand)).map .num := by
  rw [fm_if (fun i : Nat => (i : Int) ∉ p ∧ (i : Int) ≠ hand) (fun i : Nat => NestedKey.num (i : Int))]
  unfold hear
  rw [List.filter_filter, List.filter_map, List.map_map]
  congr 1
  refine List.filter_congr fun i _ => ?_
  show _ = (decide ((i : Int) ≠ hand) && decide ((i : Int) ∉ p))
  rw [Bool.and_comm, Bool.decide_and]
/-! ### the arrangements that come -/
def pmGo (n k : Nat) : Nat → List Nat × List Nat → List (List Nat × List Nat)
  | 0, _ => []
  | f + 1, p => p :: match nextP n k p.1 p.2 with
    | none => []
    | some q => pmGo n k f q
def pmSt (n k : Nat) : List (List Nat × List Nat) := pmGo n k 100 (List.range n, (List.range k).map fun i => n - i)
def pmCheck (n k : Nat) (st : List (List Nat × List Nat)) : Bool :=
  decide (st.take 1 = [(List.range n, (List.range k).map fun i => n - i)]) &&
  ((List.range st.length).all fun j => match st[j]? with
    | some p => decide (nextP n k p.1 p.2 = st[j + 1]?)
    | none => true) &&
  (st.all fun p => decide (p.1.length = n) && decide (p.2.length = k) && p.1.all fun x => decide (x < n))
theorem pmRun_of {n k : Nat} {st : List (List Nat × List Nat)} (h : pmCheck n k st = true) : PmRun n k st := by
  unfold pmCheck at h
  rw [Bool.and_eq_true, Bool.and_eq_true] at h
  obtain ⟨⟨h1, h2⟩, h3⟩ := h
  refine ⟨?_, fun j p hp => ?_, fun p hp => ?_⟩
  · have h1 := of_decide_eq_true h1
    cases st with
    | nil => simp at h1
    | cons a r =>
      simp at h1
      exact ⟨r, by rw [h1]⟩
  · have hj := (List.getElem?_eq_some_iff.mp hp).1
    have q := List.all_eq_true.mp h2 j (List.mem_range.mpr hj)
    rw [hp] at q
    exact of_decide_eq_true q
  · have q := List.all_eq_true.mp h3 p hp
    rw [Bool.and_eq_true, Bool.and_eq_true] at q
    exact ⟨of_decide_eq_true q.1.1, of_decide_eq_true q.1.2, fun x hx => of_decide_eq_true (List.all_eq_true.mp q.2 x hx)⟩
theorem pm_all : ∀ n : Nat, n < 10 → ∀ k : Nat, k < 3 → k ≤ n → pmCheck n k (pmSt n k) = true := by decide +kernel
theorem pm_lvl : ∀ n : Nat, n < 11 → ∀ k : Nat, k < 3 → k + 2 ≤ n → (pmList 1 k (pmSt (n - 1) k)).map (fun l => 0 :: l) = lvlM n k := by decide +kernel
def allPM (n m : Nat) : List (List Int) := ((List.range (min (m + 1) (n - 1))).map (lvlM n)).flatten
theorem mem_all {n m : Nat} (hn : 2 ≤ n) {p : List Int} : p ∈ allPM n m ↔ IsP n p ∧ p.length ≤ m + 1 ∧ p.length ≤ n - 1 := by
  unfold allPM
  rw [List.mem_flatten]
  refine ⟨fun ⟨l, hl, hp⟩ => ?_, fun ⟨h1, h2, h3⟩ => ?_⟩
  · obtain ⟨k, hk, rfl⟩ := List.mem_map.mp hl
    have hk := List.mem_range.mp hk
    obtain ⟨a, b⟩ := (mem_lvl (by omega)).mp hp
    exact ⟨a, by omega, by omega⟩
  · have := h1.pos
    exact ⟨_, List.mem_map.mpr ⟨p.length - 1, List.mem_range.mpr (by omega), rfl⟩, (mem_lvl (by omega)).mpr ⟨h1, by omega⟩⟩
theorem all_small {n m : Nat} (hn : n ≤ 10) (hm : m ≤ 2) : (allPM n m).length ≤ 300 := by
  unfold allPM
  have go : ∀ j : Nat, j ≤ 3 → (((List.range j).map (lvlM n)).flatten).length ≤ 100 * j := by
    intro j
    induction j with
    | zero => intro _; simp
    | succ j ih =>
      intro hj
      have := ih (by omega)
      have := lvl_small (n := n) (k := j) hn (by omega)
      rw [List.range_succ, List.map_append, List.flatten_append, List.length_append]
      have e : (List.map (lvlM n) [j]).flatten = lvlM n j := by simp
      rw [e]
      omega
  have := go (min (m + 1) (n - 1)) (by omega)
  omega
/-! ### what a hand was told: every path without it -/
structure Kv (n M m : Nat) (hand : Int) (kvs : List (D × V)) : Prop where
  all : ∀ q, IsP n q → hand ∉ q → q.length ≤ m → (valV kvs (pk q)).isSome = true
  mem : ∀ e ∈ kvs, ∃ q o, e = (pk q, sg o) ∧ IsP n q ∧ hand ∉ q ∧ q.length ≤ M ∧ q.length ≤ n - 1
theorem mem_putK {κ : Type} [DecidableEq κ] {kvs : List (κ × V)} {k : κ} {v : V} {e : κ × V} (h : e ∈ putK kvs k v) : e = (k, v) ∨ e ∈ kvs := by
  unfold putK at h
  split at h
  · obtain ⟨p, hp, rfl⟩ := List.mem_map.mp h
    by_cases z : p.1 = k
    · rw [if_pos z, ← z]
      exact .inl rfl
    · rw [if_neg z]
      exact .inr hp
  · rcases List.mem_append.mp h with h | h
    · exact .inr h
    · exact .inl (List.mem_singleton.mp h)
def tfOf (kvs : List (D × V)) (q : List Int) : Option Str := match valV kvs (pk q) with
  | some (.str x) => some x
  | _ => none
theorem Kv.tf {n M m : Nat} {hand : Int} {kvs : List (D × V)} (h : Kv n M m hand kvs) {q : List Int} (hq : IsP n q) (hh : hand ∉ q) (hl : q.length ≤ m) : valV kvs (pk q) = some (sg (tfOf kvs q)) := by
  have a := h.all q hq hh hl
  cases e : valV kvs (pk q) with
  | none => rw [e] at a; cases a
  | some v =>
    obtain ⟨q', o, he, _⟩ := h.mem _ (valV_mem e)
    injection he with h1 h2
    subst h2
    unfold tfOf
    rw [e]
    cases o <;> rfl
theorem Kv.nil {n M : Nat} {hand : Int} : Kv n M 0 hand [] := ⟨fun q hq _ hl => by have := hq.pos; omega, fun _ h => nomatch h⟩
theorem IsP.short {n : Nat} {q : List Int} {hand : Int} (h : IsP n q) (hr : 0 ≤ hand ∧ hand < n) (hh : hand ∉ q) : q.length + 1 ≤ n :=
  nodup_len n (hand :: q) (List.nodup_cons.mpr ⟨hh, h.nd⟩) fun x hx => by
    rcases List.mem_cons.mp hx with e | e
    · rw [e]; exact hr
    · exact h.mem x e
theorem Kv.put {n M m : Nat} {hand : Int} {kvs : List (D × V)} (h : Kv n M m hand kvs) {p : List Int} {o : Option Str} (hp : IsP n p) (hh : hand ∉ p) (h3 : p.length ≤ M) (hn : p.length ≤ n - 1) : Kv n M m hand (putK kvs (pk p) (sg o)) := by
  refine ⟨fun q hq hh hl => ?_, fun e he => ?_⟩
  · rw [valV_put]
    split
    · rfl
    · exact h.all q hq hh hl
  · rcases mem_putK he with e1 | e1
    · exact ⟨p, o, e1, hp, hh, h3, hn⟩
    · exact h.mem e e1
theorem put_some {kvs : List (D × V)} {k k' : D} {v : V} (h : (valV kvs k').isSome = true) : (valV (putK kvs k v) k').isSome = true := by
  rw [valV_put]
  split
  · rfl
  · exact h
/-! the hashes of paths differ -/
def allP : List (List Int) := lvlM 10 0 ++ lvlM 10 1 ++ lvlM 10 2
theorem allP_hash : (allP.map hashN).Nodup := by decide +kernel
theorem nodup_map_inj {α β : Type} (f : α → β) : ∀ {l : List α}, (l.map f).Nodup → ∀ {a b : α}, a ∈ l → b ∈ l → f a = f b → a = b
  | [], _, _, _, h, _, _ => nomatch h
  | x :: l, nd, a, b, ha, hb, e => by
    rw [List.map_cons, List.nodup_cons] at nd
    rcases List.mem_cons.mp ha with h1 | h1 <;> rcases List.mem_cons.mp hb with h2 | h2
    · rw [h1, h2]
    · exact absurd (List.mem_map.mpr ⟨b, h2, by rw [← e, h1]⟩) nd.1
    · exact absurd (List.mem_map.mpr ⟨a, h1, by rw [e, h2]⟩) nd.1
    · exact nodup_map_inj f nd.2 h1 h2 e
theorem mem_allP {n : Nat} {q : List Int} (h : IsP n q) (hn : n ≤ 10) (hl : q.length ≤ 3) : q ∈ allP := by
  have h' : IsP 10 q := ⟨h.hd, h.nd, fun x hx => by have := h.mem x hx; omega⟩
  have := h.pos
  unfold allP
  rw [List.mem_append, List.mem_append, mem_lvl (by decide), mem_lvl (by decide), mem_lvl (by decide)]
  rcases (by omega : q.length = 1 ∨ q.length = 2 ∨ q.length = 3) with e | e | e
  · exact .inl (.inl ⟨h', e⟩)
  · exact .inl (.inr ⟨h', e⟩)
  · exact .inr ⟨h', e⟩
theorem hash_nodup {w : World} {kvs : List (D × V)} (nd : (kvs.map (·.1)).Nodup) (h : ∀ e ∈ kvs, ∃ q, e.1 = pk q ∧ q ∈ allP) : (kvs.map fun p => p.1.hash w).Nodup := by
  unfold List.Nodup at nd ⊢
  rw [List.pairwise_map] at nd ⊢
  refine nd.imp_of_mem fun {a b} ha hb hne e => hne ?_
  obtain ⟨q, e1, hq⟩ := h a ha
  obtain ⟨r, e2, hr⟩ := h b hb
  rw [e1, e2] at e ⊢
  unfold pk at e
  rw [hash_nums, hash_nums] at e
  rw [nodup_map_inj hashN allP_hash hq hr e]
theorem valV_of_mem {κ : Type} [DecidableEq κ] : ∀ {kvs : List (κ × V)} {p : κ × V}, (kvs.map (·.1)).Nodup → p ∈ kvs → valV kvs p.1 = some p.2
  | [], _, _, h => nomatch h
  | x :: l, p, nd, h => by
    rw [List.map_cons, List.nodup_cons] at nd
    rcases List.mem_cons.mp h with e | e
    · rw [e, valV_pos rfl]
    · rw [valV_neg (fun z => nd.1 (List.mem_map.mpr ⟨p, e, z.symm⟩))]
      exact valV_of_mem nd.2 e
theorem flatB_sg (o : Option Str) : flatB (sg o) = true := by cases o <;> rfl
theorem Kv.hash {w : World} {n M m : Nat} {hand : Int} {kvs : List (D × V)} (h : Kv n M m hand kvs) (hn : n ≤ 10) (hM : M ≤ 3) (nd : (kvs.map (·.1)).Nodup) : (kvs.map fun p => p.1.hash w).Nodup :=
  hash_nodup nd fun e he => by
    obtain ⟨q, o, h1, h2, _, h3, _⟩ := h.mem e he
    rw [h1]
    exact ⟨q, rfl, mem_allP h2 hn (by omega)⟩
theorem Kv.tups {n M m : Nat} {hand : Int} {kvs : List (D × V)} (h : Kv n M m hand kvs) : ∀ p ∈ kvs, ∃ ks, p.1 = .tup ks := fun e he => by
  obtain ⟨q, o, h1, _⟩ := h.mem e he
  rw [h1]
  exact ⟨_, rfl⟩
theorem Kv.same {n M m : Nat} {hand : Int} {kvs : List (D × V)} (h : Kv n M m hand kvs) (nd : (kvs.map (·.1)).Nodup) : ∀ p ∈ kvs, valV kvs p.1 = some p.2 ∧ flatB p.2 = true := fun e he => by
  refine ⟨valV_of_mem nd he, ?_⟩
  obtain ⟨q, o, h1, _⟩ := h.mem e he
  rw [h1]
  exact flatB_sg o
/-- paths without the hand, as values -/
def Goods (H : Hp) (n m : Nat) (hand : Int) (ys : List V) : Prop := ∀ y ∈ ys, ∃ q, At H (pk q) y ∧ IsP n q ∧ hand ∉ q ∧ q.length ≤ m + 1
theorem Goods.le {H H' : Hp} {n m : Nat} {hand : Int} {ys : List V} (h : Goods H n m hand ys) (l : Le H H') : Goods H' n m hand ys := fun y hy =>
  let ⟨q, h1, h2⟩ := h y hy; ⟨q, h1.le l, h2⟩
theorem Goods.app {H : Hp} {n m : Nat} {hand : Int} {xs ys : List V} (h : Goods H n m hand xs) (g : Goods H n m hand ys) : Goods H n m hand (xs ++ ys) := fun y hy => by
  rcases List.mem_append.mp hy with e | e
  · exact h y e
  · exact g y e
theorem Goods.cut {H : Hp} {n m : Nat} {hand : Int} {xs : List V} {lo hi : Option Int} (h : Goods H n m hand xs) : Goods H n m hand (cutV xs lo hi) := fun y hy => h y (cutV_mem hy)
theorem Kv.goods {H : Hp} {n m k : Nat} {hand : Int} {kvs : List (D × V)} {ks : List V} (h : Kv n (m + 1) k hand kvs) (a : Ats H (kvs.map (·.1)) ks) : Goods H n m hand ks := fun y hy => by
  obtain ⟨i, hi⟩ := List.mem_iff_getElem?.mp hy
  obtain ⟨d, hd, ha⟩ := a.get' hi
  rw [List.getElem?_map] at hd
  obtain ⟨e, he, rfl⟩ := Option.map_eq_some_iff.mp hd
  obtain ⟨q, o, h1, h2, h3, h4, _⟩ := h.mem e (List.mem_of_getElem? he)
  rw [h1] at ha
  exact ⟨q, ha, h2, h3, h4⟩
theorem paths_lvl {n k : Nat} (hn : 2 ≤ n) (hk : k + 1 ≤ n - 1) : pathsM n (k + 1) = lvlM n k := by
  unfold pathsM
  rw [show min (k + 1) (n - 1) - 1 = k by omega]
  exact List.filter_eq_self.mpr fun p hp => decide_eq_true ((mem_lvl (by omega)).mp hp).2
theorem paths_none {n k : Nat} (hn : 2 ≤ n) (hk : n - 1 < k + 1) : pathsM n (k + 1) = [] := by
  refine List.eq_nil_iff_forall_not_mem.mpr fun p hp => ?_
  have := ((mem_paths hn (by omega)).mp hp).2.2
  omega
/-- the paths of the first k sizes -/
def upTo (n k : Nat) : List (List Int) := ((List.range k).map fun i => pathsM n (i + 1)).flatten
theorem upTo_succ (n k : Nat) : upTo n (k + 1) = upTo n k ++ pathsM n (k + 1) := by
  unfold upTo
  rw [List.range_succ, List.map_append, List.flatten_append]
  simp
theorem upTo_all {n m : Nat} (hn : 2 ≤ n) : upTo n (m + 1) = allPM n m := by
  have go : ∀ k, upTo n k = ((List.range (min k (n - 1))).map (lvlM n)).flatten := by
    intro k
    induction k with
    | zero => simp [upTo]
    | succ k ih =>
      rw [upTo_succ, ih]
      by_cases h : k + 1 ≤ n - 1
      · rw [paths_lvl hn h, show min (k + 1) (n - 1) = min k (n - 1) + 1 by omega, List.range_succ, List.map_append, List.flatten_append, show min k (n - 1) = k by omega]
        simp
      · rw [paths_none hn (by omega), List.append_nil, show min (k + 1) (n - 1) = min k (n - 1) by omega]
  exact go (m + 1)
theorem mem_upTo {n k : Nat} (hn : 2 ≤ n) {p : List Int} : p ∈ upTo n k ↔ IsP n p ∧ p.length ≤ k ∧ p.length ≤ n - 1 := by
  unfold upTo
  rw [List.mem_flatten]
  refine ⟨fun ⟨l, hl, hp⟩ => ?_, fun ⟨h1, h2, h3⟩ => ?_⟩
  · obtain ⟨i, hi, rfl⟩ := List.mem_map.mp hl
    have hi := List.mem_range.mp hi
    obtain ⟨a, b, c⟩ := (mem_paths hn (by omega)).mp hp
    exact ⟨a, by omega, by omega⟩
  · have := h1.pos
    exact ⟨_, List.mem_map.mpr ⟨p.length - 1, List.mem_range.mpr (by omega), rfl⟩, (mem_paths hn (by omega)).mpr ⟨h1, by omega, by omega⟩⟩
theorem upTo_small {n k : Nat} (hn : n ≤ 10) (hk : k ≤ 3) : (upTo n k).length ≤ 300 := by
  unfold upTo
  refine Nat.le_trans (flat_len (c := 100) fun x hx => ?_) ?_
  · obtain ⟨i, hi, rfl⟩ := List.mem_map.mp hx
    have := List.mem_range.mp hi
    exact paths_length hn (by omega)
  · rw [List.length_map, List.length_range]
    omega
/-- a path and a hearer -/
def kk (p : List Int) (h : Int) : D := .tup [pk p, .num h]
theorem kk_depth (p : List Int) (h : Int) : (kk p h).depth ≤ 8 := by
  unfold kk pk
  rw [NestedKey.depth, NestedKey.depthAll, NestedKey.depth, NestedKey.depthAll, NestedKey.depthAll, NestedKey.depth]
  have := nums_depth p
  omega
theorem kk_at {H : Hp} {b c : Addr} {p : List Int} {h : Int} (hc : H c = some (.tup [.ref b, .int h])) (hb : H b = some (.tup (p.map .int))) : At H (kk p h) (.ref c) := At.tup hc (Ats.cons (pk_at hb) (Ats.cons At.int Ats.nil))
theorem kk_inj {p q : List Int} {h i : Int} (e : kk p h = kk q i) : p = q ∧ h = i := by
  injection e with e
  injection e with e1 e2
  injection e2 with e2 _
  injection e2 with e2
  exact ⟨pk_inj e1, e2⟩
theorem kk_of {H : Hp} {v : V} {p : List Int} {h : Int} (a : At H (kk p h) v) : ∃ c b, v = .ref c ∧ H c = some (.tup [.ref b, .int h]) ∧ H b = some (.tup (p.map .int)) := by
  obtain ⟨c, xs, e, hc, hs⟩ := a.of_tup
  obtain ⟨v1, r1, e1, a1, s1⟩ := hs.of_cons
  obtain ⟨v2, r2, e2, a2, s2⟩ := s1.of_cons
  obtain ⟨b, eb, hb⟩ := pk_of a1
  refine ⟨c, b, e, ?_, hb⟩
  rw [hc, e1, e2, s2.of_nil, a2.of_int, eb]
/-! ### who heard what -/
abbrev Lie := List Int → Int → Option (Option Str)
def heardM (lie : Lie) (s : Option Str) : Nat → List Int → Int → Option Str
  | 0, p, h => (lie p h).getD s
  | k + 1, p, h => (lie p h).getD (heardM lie s k p.dropLast (lastM p))
/-- what the hand h was told along p -/
def toldM (lie : Lie) (s : Option Str) (h : Int) (p : List Int) : Option Str := heardM lie s (p.length - 1) p h
/-- what the hand tells that stands last on p -/
def wordM (lie : Lie) (s : Option Str) (p : List Int) : Option Str := if p.length ≤ 1 then s else toldM lie s (lastM p) p.dropLast
theorem told_word (lie : Lie) (s : Option Str) (h : Int) (p : List Int) : toldM lie s h p = (lie p h).getD (wordM lie s p) := by
  unfold toldM wordM
  by_cases hp : p.length ≤ 1
  · rw [if_pos hp, show p.length - 1 = 0 by omega, heardM]
  · obtain ⟨k, hk⟩ : ∃ k, p.length - 1 = k + 1 := ⟨p.length - 2, by omega⟩
    rw [if_neg hp, hk, heardM]
    unfold toldM
    rw [List.length_dropLast, hk, Nat.add_sub_cancel]
def earM (lie : Lie) (s : Option Str) (h : Int) (L : List (List Int)) : List (D × V) := (L.filter fun p => decide (h ∉ p)).map fun p => (pk p, sg (toldM lie s h p))
theorem valV_paths (f : List Int → V) (q : List Int) : ∀ L : List (List Int), valV (L.map fun p => (pk p, f p)) (pk q) = if q ∈ L then some (f q) else none
  | [] => rfl
  | p :: L => by
    rw [List.map_cons]
    by_cases e : p = q
    · rw [valV_pos (by rw [e]), if_pos (by rw [e]; simp), e]
    · rw [valV_neg (fun z => e (pk_inj z)), valV_paths f q L]
      have e' : q ≠ p := fun z => e z.symm
      simp [e']
theorem ear_val (lie : Lie) (s : Option Str) {h : Int} {L : List (List Int)} {q : List Int} : valV (earM lie s h L) (pk q) = if q ∈ L ∧ h ∉ q then some (sg (toldM lie s h q)) else none := by
  unfold earM
  rw [valV_paths]
  simp [List.mem_filter]
theorem ear_app (lie : Lie) (s : Option Str) (h : Int) (L : List (List Int)) (p : List Int) : earM lie s h (L ++ [p]) = if h ∈ p then earM lie s h L else earM lie s h L ++ [(pk p, sg (toldM lie s h p))] := by
  unfold earM
  rw [List.filter_append, List.map_append]
  by_cases e : h ∈ p
  · rw [if_pos e]
    simp [e]
  · rw [if_neg e]
    simp [e]
theorem ear_length (lie : Lie) (s : Option Str) (h : Int) (L : List (List Int)) : (earM lie s h L).length ≤ L.length := by
  unfold earM
  rw [List.length_map]
  exact List.length_filter_le _ _
theorem putK_new {κ : Type} [DecidableEq κ] {kvs : List (κ × V)} {k : κ} {v : V} (h : valV kvs k = none) : putK kvs k v = kvs ++ [(k, v)] := by
  unfold putK
  rw [valV_any, h]
  rfl
/-- the dicts es, one a hand -/
def Ears (P : Program) (w : World) (H : Hp) (es : List Addr) (f : Nat → List (D × V)) : Prop := ∀ i e, es[i]? = some e → ND P w H e (f i)
theorem Ears.le {P : Program} {w : World} {H H' : Hp} {es : List Addr} {f : Nat → List (D × V)} (h : Ears P w H es f) (l : Le H H') : Ears P w H' es f := fun i e he => (h i e he).le l
theorem nodup_ix {α : Type} {l : List α} (nd : l.Nodup) {i j : Nat} {a : α} (hi : l[i]? = some a) (hj : l[j]? = some a) : i = j := by
  obtain ⟨l1, q1⟩ := List.getElem?_eq_some_iff.mp hi
  obtain ⟨l2, q2⟩ := List.getElem?_eq_some_iff.mp hj
  have h := List.pairwise_iff_getElem.mp nd
  rcases Nat.lt_trichotomy i j with e | e | e
  · exact absurd (q1.trans q2.symm) (h i j l1 l2 e)
  · exact e
  · exact absurd (q2.trans q1.symm) (h j i l2 l1 e)
theorem Ears.put {P : Program} {w : World} {H : Hp} {es : List Addr} {f : Nat → List (D × V)} (h : Ears P w H es f) (nd : es.Nodup) {i : Nat} {e : Addr} (he : es[i]? = some e) {o : Obj} {kvs : List (D × V)} (ho : IsND P w H o kvs) :
    Ears P w (L2.upd H e (raw e o)) es (fun j => if j = i then kvs else f j) := fun j e' hj => by
  have h0 := h i e he
  by_cases hji : j = i
  · subst hji
    rw [he] at hj
    cases hj
    show ND P w _ e (if j = j then kvs else f j)
    rw [if_pos rfl]
    exact nd_raw (H' := H) h0 ho
  · show ND P w _ e' (if j = i then kvs else f j)
    rw [if_neg hji]
    have hne : e' ≠ e := fun z => hji (nodup_ix nd (z ▸ hj) he)
    obtain ⟨_, o0, hr, _⟩ := id h0
    exact (h j e' hj).at (tups_upd hr (fun _ z => nomatch z)) fun o' ho' => by rw [upd_ne hne]; exact ho'
/-- the dict of lies tells lie -/
def LieOk (lkv : List (D × V)) (lie : Lie) : Prop := ∀ p h, valV lkv (kk p h) = (lie p h).map sg
/-- the hands of a path are told apart from its hearers -/
theorem dropLast_isP {n : Nat} {p : List Int} (h : IsP n p) (h2 : 2 ≤ p.length) : IsP n p.dropLast ∧ lastM p ∉ p.dropLast ∧ 0 ≤ lastM p ∧ lastM p < n := by
  have hne : p ≠ [] := fun e => by subst e; simp at h2
  have e := List.dropLast_concat_getLast hne
  have el : lastM p = p.getLast hne := by
    unfold lastM
    rw [List.getLast?_eq_some_getLast hne]
    rfl
  have hm : p.getLast hne ∈ p := List.getLast_mem hne
  rw [el]
  refine ⟨⟨?_, ?_, fun x hx => h.mem x (List.dropLast_subset p hx)⟩, ?_, h.mem _ hm⟩
  · have := h.hd
    match p, h2 with
    | a :: b :: t, _ => exact this
  · have nd := h.nd
    rw [← e] at nd
    exact (List.nodup_append.mp nd).1
  · have nd := h.nd
    rw [← e] at nd
    intro hx
    exact (List.nodup_append.mp nd).2.2 _ hx _ (by simp) rfl
theorem lvl_nodup : ∀ n : Nat, n < 11 → ∀ k : Nat, k < 3 → (lvlM n k).Nodup := by decide +kernel
theorem paths_nodup {n k : Nat} (hn : n ≤ 10) (hk : k ≤ 3) : (pathsM n k).Nodup := by
  unfold pathsM
  exact (lvl_nodup n (by omega) _ (by omega)).filter _
theorem hear_nodup (n : Nat) (p : List Int) : (hear n p).Nodup := by
  unfold hear
  refine List.Pairwise.filter _ ?_
  rw [List.pairwise_map]
  exact List.nodup_range.imp fun h e => h (Int.ofNat.inj e)
theorem getD_sg (o : Option (Option Str)) (t : Option Str) : (o.map sg).getD (sg t) = sg (o.getD t) := by cases o <;> rfl
theorem sIx_neg1 (n : Nat) : HT.sIx n n (some (-1)) = n - 1 := by
  unfold HT.sIx
  dsimp only
  rw [if_pos (by decide)]
  omega
theorem cut_init (p : List Int) : cutV (p.map V.int) none (some (-1)) = p.dropLast.map .int := by
  unfold cutV
  have e1 : HT.sIx (p.map V.int).length 0 none = 0 := rfl
  rw [e1, sIx_neg1, List.length_map, List.drop_zero, Nat.sub_zero, List.dropLast_eq_take, List.map_take]
section
variable {P : Program} {w : World} {K : PySem.W.Frag} {mg : Str → Option Value} {base : Heap}
/-- nothing, a text, a tuple, a list -/
def OddV (H : Hp) (v : V) : Prop := v = .non ∨ (∃ z, v = .str z) ∨ (∃ a xs, v = .ref a ∧ H a = some (.tup xs)) ∨ ∃ a xs, v = .ref a ∧ H a = some (.lst xs)
/-- is v a whole number from l to h -/
def WhB (K : PySem.W.Frag) (H : Hp) (v : V) (l h : Int) (b : Bool) : Prop :=
  (∃ i, v = .int i ∧ b = (decide (l ≤ i) && decide (i ≤ h))) ∨ ((∃ x, v = .bl x) ∧ b = false) ∨ (OddV H v ∧ b = false)
theorem WhB.le {K : PySem.W.Frag} {H H' : Hp} {v : V} {l h : Int} {b : Bool} (w : WhB K H v l h b) (e : Le H H') : WhB K H' v l h b := by
  rcases w with w | w | ⟨w, hb⟩
  · exact .inl w
  · exact .inr (.inl w)
  · refine .inr (.inr ⟨?_, hb⟩)
    rcases w with w | w | ⟨a, xs, e1, e2⟩ | ⟨a, xs, e1, e2⟩
    · exact .inl w
    · exact .inr (.inl w)
    · exact .inr (.inr (.inl ⟨a, xs, e1, e.tup e2⟩))
    · exact .inr (.inr (.inr ⟨a, xs, e1, e.lst e2⟩))
theorem OddV.ty {K : PySem.W.Frag} {H : Hp} {v : V} (w : OddV H v) : ∃ t, TyX K H v t ∧ PySem.W.kitOne K t (.type "int") = some false := by
  rcases w with rfl | ⟨z, rfl⟩ | ⟨a, xs, rfl, e⟩ | ⟨a, xs, rfl, e⟩
  · exact ⟨_, .base .non, kit_ty (a := "NoneType") (b := "int") (r := false) (by decide +kernel)⟩
  · exact ⟨_, .base (.str z), kit_ty (a := "str") (b := "int") (r := false) (by decide +kernel)⟩
  · exact ⟨_, .base (.tup e), kit_ty (a := "tuple") (b := "int") (r := false) (by decide +kernel)⟩
  · exact ⟨_, .base (.lst e), kit_ty (a := "list") (b := "int") (r := false) (by decide +kernel)⟩
def spWholeX (K : PySem.W.Frag) : Sp := fun vs H Q _ => ∃ (v : V) (l h : Int) (b : Bool), vs = [v, .int l, .int h] ∧ WhB K H v l h b ∧ Q (.bl b) H
theorem ty_int {K : PySem.W.Frag} {H : Hp} (i : Int) : ∃ t, TyX K H (.int i) t ∧ PySem.W.kitOne K t (.type "int") = some true ∧ PySem.W.kitOne K t (.type "bool") = some false :=
  ⟨_, .base (.int i), kit_ty (a := "int") (b := "int") (r := true) (by decide +kernel), kit_ty (a := "int") (b := "bool") (r := false) (by decide +kernel)⟩
theorem ty_bool {K : PySem.W.Frag} {H : Hp} (i : Bool) : ∃ t, TyX K H (.bl i) t ∧ PySem.W.kitOne K t (.type "int") = some true ∧ PySem.W.kitOne K t (.type "bool") = some true :=
  ⟨_, .base (.bl i), kit_ty (a := "bool") (b := "int") (r := true) (by decide +kernel), kit_ty (a := "bool") (b := "bool") (r := true) (by decide +kernel)⟩
abbrev s_is_whole : Stmt := top 11
theorem sc_is_whole : FnScope ["value", "low", "high"] ["value", "low", "high"] (defScope s_is_whole) := ⟨rfl, rfl, rfl, by decide +kernel, rfl, by decide +kernel, by decide +kernel⟩
theorem ok_is_whole {f : Addr} {fd : FuncData} (F : Fun K "is_whole" "is_whole" s_is_whole f fd) (T : Bt mg) : FnOk P w K mg base CX0 1 f fd ["value", "low", "high"] (spWholeX K) := by
  refine F.ok sc_is_whole (fun vs H Q E h => ?_) (fun cdv A outer s H vs Q E hr h => ?_)
  · obtain ⟨v, l, h, b, rfl, _⟩ := h
    rfl
  · obtain ⟨v, l, h, b, rfl, hb, q⟩ := h
    refine ⟨_, (pss_one (ps_ret (pe_and (pe_callB (isiK (K := K) rfl) (by rfl) T.b_isinstance bb_isinstance (pa_cons (pv 0) (pa_cons (pe_bltn (v := .ty "int") (by rfl) T.b_int bb_int rfl) pa_nil))) (pe_and (pe_not (pe_callB (isiK (K := K) rfl) (by rfl) T.b_isinstance bb_isinstance (pa_cons (pv 0) (pa_cons (pe_bltn (v := .ty "bool") (by rfl) T.b_bool bb_bool rfl) pa_nil)))) (pe_one (pe_chain op_le op_le (pv 1) (pv 0) (pv 2))))))), ?_⟩
    walk_at "rg"
    rcases hb with ⟨i, rfl, rfl⟩ | ⟨⟨x, rfl⟩, rfl⟩ | ⟨ho, rfl⟩
    · obtain ⟨t, ht, hi, hb⟩ := ty_int (K := K) (H := H) i
      refine ⟨_, _, t, _, _, rfl, .ty "int", ht, hi, _, rfl, iteT ⟨_, _, t, _, _, rfl, .ty "bool", ht, hb, _, rfl, iteT ⟨_, rfl, ite2 (fun hc => ?_) (fun hc => ?_)⟩⟩⟩
      · have hc := of_decide_eq_true hc
        rw [decide_eq_true hc] at q
        exact ⟨_, rfl, q⟩
      · have hc : ¬ l ≤ i := fun z => hc (decide_eq_true z)
        rw [decide_eq_false hc] at q
        exact q
    · obtain ⟨t, ht, hi, hb⟩ := ty_bool (K := K) (H := H) x
      exact ⟨_, _, t, _, _, rfl, .ty "int", ht, hi, _, rfl, iteT ⟨_, _, t, _, _, rfl, .ty "bool", ht, hb, _, rfl, iteF q⟩⟩
    · obtain ⟨t, ht, hk⟩ := ho.ty (K := K)
      exact ⟨_, _, t, _, _, rfl, .ty "int", ht, hk, _, rfl, iteF q⟩
/-- a table is asked: nothing comes of a good one, NoTable (at C) of any other -/
def spCheckX (K : PySem.W.Frag) (C : Addr) : Sp := fun vs H Q E => ∃ (v1 v2 : V) (b1 b2 : Bool), vs = [v1, v2] ∧ WhB K H v1 2 10 b1 ∧ WhB K H v2 0 2 b2 ∧ ((b1 && b2) = true → Q .non H) ∧ ((b1 && b2) = false → E (.ref C) none H)
abbrev s_check_table : Stmt := top 16
theorem sc_check_table : FnScope ["hands", "most"] ["hands", "most"] (defScope s_check_table) := ⟨rfl, rfl, rfl, by decide +kernel, rfl, by decide +kernel, by decide +kernel⟩
theorem ok_check_table {f f1 C : Addr} {fd fd1 : FuncData} (F : Fun K "check_table" "check_table" s_check_table f fd) (T : Bt mg) (x_NoTable : ExX K mg "NoTable" C)
    (c_is_whole : Cal P w K mg base CX0 1 "is_whole" ["value", "low", "high"] (spWholeX K) f1 fd1) : FnOk P w K mg base (L2.CX P w) 2 f fd ["hands", "most"] (spCheckX K C) := by
  refine F.okX sc_check_table (fun vs H Q E h => ?_) (fun cdv A outer s H vs Q E hr h => ?_)
  · obtain ⟨n, m, _, _, rfl, _⟩ := h
    rfl
  · obtain ⟨v1, v2, b1, b2, rfl, h1, h2, q1, q2⟩ := h
    refine ⟨_, (pss_cons (ps_if (pt_not (pt_val (pe_own c_is_whole (hr.mono (by omega)) rfl (pa_cons (pv 0) (pa_cons pe_int (pa_cons pe_int pa_nil))))))
          (pss_one (ps_raise rfl (takes_of rfl rfl rfl rfl) (pmk_own PySem.F.excBase_ValueError x_NoTable.q x_NoTable.g x_NoTable.k (raises_own x_NoTable.b x_NoTable.t) rfl)))
          pss_nil)
        (pss_one (ps_if (pt_not (pt_val (pe_own c_is_whole (hr.mono (by omega)) rfl (pa_cons (pv 1) (pa_cons pe_int (pa_cons pe_int pa_nil))))))
          (pss_one (ps_raise rfl (takes_of rfl rfl rfl rfl) (pmk_own PySem.F.excBase_ValueError x_NoTable.q x_NoTable.g x_NoTable.k (raises_own x_NoTable.b x_NoTable.t) rfl)))
          pss_nil))), ?_⟩
    walk_at "rg"
    refine ⟨v1, 2, 10, b1, rfl, h1, b1, rfl, ?_⟩
    cases b1 with
    | false => exact iteT (q2 rfl)
    | true =>
      refine iteF ⟨v2, 0, 2, b2, rfl, h2, b2, rfl, ?_⟩
      cases b2 with
      | false => exact iteT (q2 rfl)
      | true => exact iteF (q1 rfl)
/-- v1, v2 are no table's numbers -/
def BadT (K : PySem.W.Frag) (H : Hp) (v1 v2 : V) : Prop := ∃ b1 b2, WhB K H v1 2 10 b1 ∧ WhB K H v2 0 2 b2 ∧ (b1 && b2) = false
theorem BadT.le {K : PySem.W.Frag} {H H' : Hp} {v1 v2 : V} (b : BadT K H v1 v2) (e : Le H H') : BadT K H' v1 v2 := let ⟨b1, b2, h1, h2, h3⟩ := b; ⟨b1, b2, h1.le e, h2.le e, h3⟩
theorem BadT.check {K : PySem.W.Frag} {H : Hp} {v1 v2 : V} {C : Addr} {Q : VK} {E : XK} (b : BadT K H v1 v2) (h : E (.ref C) none H) : spCheckX K C [v1, v2] H Q E :=
  let ⟨b1, b2, h1, h2, h3⟩ := b; ⟨v1, v2, b1, b2, rfl, h1, h2, fun z => absurd (z.symm.trans h3) (by decide), fun _ => h⟩
def spPPathsX (K : PySem.W.Frag) (C : Addr) : Sp := fun vs H Q E => ∃ (v1 v2 : V), vs = [v1, v2] ∧ ((∃ n m : Nat, v1 = .int n ∧ v2 = .int m ∧ 2 ≤ n ∧ n ≤ 10 ∧ m ≤ 2 ∧ ∀ d H' ys, H d = none → Le H H' → H' d = some (.lst ys) → Ats H' ((allPM n m).map pk) ys → Q (.ref d) H') ∨ (BadT K H v1 v2 ∧ E (.ref C) none H))
abbrev s_paths : Stmt := top 23
abbrev n_paths : List Str := ["hands", "most", "size", "rest"]
theorem sc_paths : FnScope ["hands", "most", "size", "rest"] ["hands", "most"] (defScope s_paths) := ⟨rfl, rfl, rfl, by decide +kernel, rfl, by decide +kernel, by decide +kernel⟩
theorem ok_paths {f f1 C : Addr} {fd fd1 : FuncData} (F : Fun K "paths" "paths" s_paths f fd) (T : Bt mg) (TP : mg "permutations" = some (.type PM))
    (cx_check_table : Cal P w K mg base (L2.CX P w) 2 "check_table" ["hands", "most"] (spCheckX K C) f1 fd1) : FnOk P w K mg base (L2.CX P w) 3 f fd ["hands", "most"] (spPPathsX K C) := by
  refine F.okX sc_paths (fun vs H Q E h => ?_) (fun cdv A outer s H vs Q E hr h => ?_)
  · obtain ⟨n, m, rfl, _⟩ := h
    rfl
  · obtain ⟨v1, v2, rfl, h⟩ := h
    refine ⟨_, (pss_cons (ps_expr (pe_ownS cx_check_table (hr.mono (by omega)) rfl (takes_of rfl rfl rfl rfl) (pa_cons (pv 0) (pa_cons (pv 1) pa_nil))))
        (pss_one (ps_ret (pe_lc2 (own := [("size", 2), ("rest", 3)]) (vs1 := [3]) rfl sc_paths.nd (pi_range1 (by rfl) T.b_range (pa_cons (pe_callB (call_min2 rfl) (by rfl) T.b_min bb_min (pa_cons (pe_op op_add (pv 1) pe_int) (pa_cons (pe_op op_sub (pv 0) pe_int) pa_nil))) pa_nil)) (blkOk_by (N := n_paths) (sc := defScope s_paths) (own := [("size", 2), ("rest", 3)]) (by decide +kernel)) (by decide) (fun _ _ _ _ _ => (pg_name (i := 2) sc_paths.nd rfl (Or.inl rfl))) (fun _ _ _ _ _ => pts_nil) (fun _ _ _ _ _ => (pi_perm rfl (by rfl) TP (by rfl) T.b_range pe_int (pv 0) (pv 2))) (fun _ _ _ _ _ => (pg_name (i := 3) sc_paths.nd rfl (Or.inl rfl))) (fun _ _ _ _ _ => pts_nil) (fun _ _ _ _ _ => (pe_tup (pa_cons pe_int (pa_starK (K := K) rfl (pv 3) pa_nil)))))))), ?_⟩
    walk_at "rg"
    rcases h with ⟨n, m, rfl, rfl, hn, hn2, hm, q⟩ | ⟨hb, q⟩
    · refine ⟨_, _, true, true, rfl, .inl ⟨n, rfl, by rw [decide_eq_true (by omega), decide_eq_true (by omega)]; rfl⟩, .inl ⟨m, rfl, by rw [decide_eq_true (by omega), decide_eq_true (by omega)]; rfl⟩, fun _ => ?_, fun z => nomatch z⟩
      refine ⟨m, rfl, n, rfl, by split <;> omega, by split <;> omega, fun D1 hD1 => ?_⟩
      have hcnt : (if (n : Int) - 1 < (m : Int) + 1 then (n : Int) - 1 else (m : Int) + 1).toNat = min (m + 1) (n - 1) := by split <;> omega
      rw [hcnt]
      refine lc2_data walk_range hD1 (fun k => (lvlM n k).map pk) ?_ (fun _ _ => True.intro) (fun i x H' H'' hi l hy In Nk kI kN => ?_) (fun H' xs l hx ha => ?_)
      · have e : ((List.range (min (m + 1) (n - 1))).map fun k => (lvlM n k).map pk).flatten = (allPM n m).map pk := by
          unfold allPM
          rw [List.map_flatten, List.map_map]
          rfl
        rw [e, List.length_map]
        have := all_small hn2 hm
        omega
      · obtain ⟨rfl, rfl⟩ := hy
        refine ⟨rfl, ?_⟩
        have hi2 : i < 3 := by omega
        have hin : i + 2 ≤ n := by omega
        walk_at "rg"
        have hL := pm_lvl n (by omega) i hi2 hin
        have hnn : ((n : Int) - 1).toNat = n - 1 := by omega
        rw [hnn]
        refine ⟨RgOk.of_le (by decide) (by omega) (by decide) (by omega), i, rfl, by omega, by omega, _, pmRun_of (pm_all (n - 1) (by omega) i hi2 (by omega)), ?_⟩
        refine kI _ _ H'' _ _ _ (fun j => (pmList 1 i (pmSt (n - 1) i))[j]?.bind fun l => some (pk (0 :: l))) walk_p (.refl _) ?_ (fun _ _ _ => True.intro) (fun j y H5 H6 hj l5 l5' hy Yk Nk1 kY kN1 => ?_)
        · rw [fm_get, ← hL, List.map_map, List.filterMap_eq_map']
          rfl
        · obtain ⟨T', l, rfl, hT', rfl, hl⟩ := hy
          refine ⟨rfl, ?_⟩
          rw [hl] at kY
          walk_at "rg"
          refine ⟨_, .inl (.of upd_same), ?_, fun b hb => kY _ _ _ ((Le.new hT').trans (.new hb)) rfl (pk_at (p := 0 :: l) upd_same)⟩
          have hm2 : (0 :: l) ∈ lvlM n i := by
            rw [← hL]
            exact List.mem_map.mpr ⟨l, List.mem_of_getElem? hl, rfl⟩
          have hl2 := ((mem_lvl (by omega)).mp hm2).2
          rw [List.length_cons] at hl2
          rw [List.length_map, sizeLine_eq]
          omega
      · refine q D1 H' xs hD1 l hx ?_
        have e : ((List.range (min (m + 1) (n - 1))).map fun k => (lvlM n k).map pk).flatten = (allPM n m).map pk := by
          unfold allPM
          rw [List.map_flatten, List.map_map]
          rfl
        rw [← e]
        exact ha
    · exact hb.check q
def spHear : Sp := fun vs H Q _ => ∃ (n : Nat) (p : List Int) (b : Addr), vs = [.int n, .ref b] ∧ H b = some (.tup (p.map .int)) ∧ n ≤ 100 ∧ ∀ d H', H d = none → Le H H' → H' d = some (.lst ((hear n p).map .int)) → Q (.ref d) H'
abbrev s_hearers : Stmt := top 22
abbrev n_hearers : List Str := ["hands", "path", "hand"]
theorem sc_hearers : FnScope ["hands", "path", "hand"] ["hands", "path"] (defScope s_hearers) := ⟨rfl, rfl, rfl, by decide +kernel, rfl, by decide +kernel, by decide +kernel⟩
theorem ok_hearers {f : Addr} {fd : FuncData} (F : Fun K "hearers" "hearers" s_hearers f fd) (T : Bt mg) : FnOk P w K mg base CX0 1 f fd ["hands", "path"] spHear := by
  refine F.ok sc_hearers (fun vs H Q E h => ?_) (fun cdv A outer s H vs Q E hr h => ?_)
  · obtain ⟨n, p, b, rfl, _⟩ := h
    rfl
  · obtain ⟨n, p, b, rfl, hb, hn, q⟩ := h
    refine ⟨_, (pss_one (ps_ret (pe_lc (own := [("hand", 2)]) (g := gName 2) rfl sc_hearers.nd (pi_range1 (by rfl) T.b_range (pa_cons (pv 0) pa_nil)) (blkOk_by (N := n_hearers) (sc := defScope s_hearers) (own := [("hand", 2)]) (by decide +kernel)) (fun _ _ _ _ _ => (pg_name (i := 2) sc_hearers.nd rfl (Or.inl rfl))) (fun _ _ _ _ _ => pts_one (pt_cmpR (notIn_seqK (K := K) rfl) (pv 2) (pv 1) rfl)) (fun _ _ _ _ _ => (pv 2))))), ?_⟩
    walk_at "rg"
    refine ⟨by omega, by omega, fun D hD => ?_⟩
    refine lc_data walk_range hD (by omega) (fun i : Nat => if (i : Int) ∉ p then some (.num (i : Int)) else none) (fun _ _ => True.intro) (fun i x H' H'' hi l hy Yk Nk kY kN => ?_) (fun H' ys l hys ha => ?_)
    · obtain ⟨rfl, rfl⟩ := hy
      refine ⟨rfl, ?_⟩
      walk_at "rg"
      refine ⟨b, _, rfl, .inr (.of (l.tup hb)), rfl, ints_flat p, ?_⟩
      rw [inV_ints]
      refine ⟨_, rfl, ?_⟩
      by_cases hc : (i : Int) ∈ p
      · rw [decide_eq_true hc]
        exact kN _ (.refl _) (if_neg (fun h => h hc))
      · rw [decide_eq_false hc]
        exact kY _ _ _ (.refl _) (if_pos hc) At.int
    · rw [Int.toNat_natCast, hear_fm] at ha
      rw [ha.ints] at hys
      exact q D H' hD l hys
/-! the tests and refusals -/
def LETTERS : Str := "abcdefghijklmnopqrstuvwxyz"
theorem letters_in (c : Nat) : c ∈ LETTERS.cps.toList ↔ 97 ≤ c ∧ c ≤ 122 := by
  have e : LETTERS.cps.toList = [97, 98, 99, 100, 101, 102, 103, 104, 105, 106, 107, 108, 109, 110, 111, 112, 113, 114, 115, 116, 117, 118, 119, 120, 121, 122] := by decide +kernel
  rw [e]
  simp
  omega
/-- texts that are signs -/
def sgB (z : Str) : Bool := decide (1 ≤ z.length) && (decide (z.length ≤ 8) && z.cps.toList.all fun c => decide (c ∈ LETTERS.cps.toList))
theorem sgB_iff (z : Str) : sgB z = true ↔ IsSign z := by
  unfold sgB IsSign
  simp only [Bool.and_eq_true, decide_eq_true_eq, List.all_eq_true, letters_in]
/-- v is a sign or it is none -/
def SgnB (H : Hp) (v : V) (b : Bool) : Prop := (∃ z, v = .str z ∧ z.length ≤ 1000 ∧ b = sgB z) ∨ ((v = .non ∨ (∃ i, v = .int i) ∨ (∃ x, v = .bl x) ∨ (∃ a xs, v = .ref a ∧ H a = some (.tup xs)) ∨ ∃ a xs, v = .ref a ∧ H a = some (.lst xs)) ∧ b = false)
theorem SgnB.le {H H' : Hp} {v : V} {b : Bool} (h : SgnB H v b) (l : Le H H') : SgnB H' v b := by
  rcases h with h | ⟨h, e⟩
  · exact .inl h
  · refine .inr ⟨?_, e⟩
    rcases h with h | h | h | ⟨a, xs, e1, e2⟩ | ⟨a, xs, e1, e2⟩
    · exact .inl h
    · exact .inr (.inl h)
    · exact .inr (.inr (.inl h))
    · exact .inr (.inr (.inr (.inl ⟨a, xs, e1, l.tup e2⟩)))
    · exact .inr (.inr (.inr (.inr ⟨a, xs, e1, l.lst e2⟩)))
theorem SgnB.good {H : Hp} {z : Str} (h : IsSign z) : SgnB H (.str z) true := .inl ⟨z, rfl, by have := h.2.1; omega, ((sgB_iff z).mpr h).symm⟩
theorem ty_str {K : PySem.W.Frag} {H : Hp} (z : Str) : ∃ t, TyX K H (.str z) t ∧ PySem.W.kitOne K t (.type "str") = some true := ⟨_, .base (.str z), kit_ty (a := "str") (b := "str") (r := true) (by decide +kernel)⟩
theorem ty_nostr {K : PySem.W.Frag} {H : Hp} {v : V} (h : v = .non ∨ (∃ i, v = .int i) ∨ (∃ x, v = .bl x) ∨ (∃ a xs, v = .ref a ∧ H a = some (.tup xs)) ∨ ∃ a xs, v = .ref a ∧ H a = some (.lst xs)) : ∃ t, TyX K H v t ∧ PySem.W.kitOne K t (.type "str") = some false := by
  rcases h with rfl | ⟨z, rfl⟩ | ⟨x, rfl⟩ | ⟨a, xs, rfl, e⟩ | ⟨a, xs, rfl, e⟩
  · exact ⟨_, .base .non, kit_ty (a := "NoneType") (b := "str") (r := false) (by decide +kernel)⟩
  · exact ⟨_, .base (.int z), kit_ty (a := "int") (b := "str") (r := false) (by decide +kernel)⟩
  · exact ⟨_, .base (.bl x), kit_ty (a := "bool") (b := "str") (r := false) (by decide +kernel)⟩
  · exact ⟨_, .base (.tup e), kit_ty (a := "tuple") (b := "str") (r := false) (by decide +kernel)⟩
  · exact ⟨_, .base (.lst e), kit_ty (a := "list") (b := "str") (r := false) (by decide +kernel)⟩
def spSgn (Pt : Addr) : Sp := fun vs H Q _ => ∃ (v : V) (b : Bool), vs = [v] ∧ SgnB H v b ∧ GxR.TabG H Pt ∧ ∀ H', Le H H' → Q (.bl b) H'
theorem el_letter {z : Str} {tz : Tok} (gL : mg "LETTERS" = some (.str z tz)) {scope : Scope} {cenv : Env} {B : Around} {E2 : Value → Shared → Prop} {cc : Nat} {tk : Tok} {t : Shared} {m2 : Str → Option Value} {p1 p2 p3 : Pos} (M : L2.Mod K mg base)
    (hk : scope.kind = .function) (hl1 : scope.names.lookup ("letter" : Str) = some .local) (hl2 : scope.names.lookup ("LETTERS" : Str) = some .globalImplicit) (h1 : cenv.scope = scope) (h2 : cenv.globals = mainGlobals) (hn : t.heap.Ns cenv.locals m2) (hm : m2 "letter" = some (.str ⟨#[cc]⟩ tk)) (bk : BK base t) :
    wpAny (model P w) B (eval (.Compare (.Name "letter" p1) [.In] [.Name "LETTERS" p2] p3) cenv) (fun y t' => y = .bool (decide (cc ∈ z.cps.toList)) ∧ Keeps t t') E2 t := by
  refine wpAny_Compare1 (nm_loc hn (by rw [h1]; exact hk) (by show cenv.scope.names.lookup _ = _; rw [h1]; exact hl1) hm ?_)
  refine nm_glob M bk (by rw [h1]; exact hk) (by show cenv.scope.names.lookup _ = _; rw [h1]; exact hl2) h2 gL ?_
  exact PyProof.Rows.in_str ⟨by rw [PySem.StrLaws.found_one z cc], kp_tok _ _⟩
abbrev s_is_sign : Stmt := top 13
theorem sc_is_sign : FnScope ["value", "letter"] ["value"] (defScope s_is_sign) := ⟨rfl, rfl, rfl, by decide +kernel, rfl, by decide +kernel, by decide +kernel⟩
theorem gs_is_sign (env : Env) (scope : Scope) (x : Str) (hk : scope.kind = .function := by rfl) (hco : scope.isCoroutine = false := by rfl) (hc : ∀ y ∈ scope.names, y.2 ≠ .cell := by decide +kernel) (hd : scope.names.lookup (".0" : Str) = some NameKind.local := by rfl) (hx : scope.names.lookup x = some .local := by rfl) (hf : ∀ y ∈ scope.names, y.2 ≠ .free := by decide +kernel) :
    GxR.GenS env scope x := ⟨hk, hco, hc, hd, hx, fun y hy h => absurd h (hf y hy)⟩
theorem ok_is_sign {f c Pt : Addr} {fd : FuncData} {tz : Tok} (F : Fun K "is_sign" "is_sign" s_is_sign f fd) (T : Bt mg) (hcode : fd.code = .ref c) (TB : GxR.TabB base mg c Pt) (gL : mg "LETTERS" = some (.str LETTERS tz)) : FnOk P w K mg base CX0 1 f fd ["value"] (spSgn Pt) := by
  refine fun_okC F hcode sc_is_sign (fun vs H Q E h => ?_) (fun A outer s H vs Q E hr h => ?_)
  · obtain ⟨v, b, rfl, _⟩ := h
    rfl
  · obtain ⟨v, b, rfl, hb, hT, q⟩ := h
    refine ⟨_, (pss_one (ps_ret (pe_and (pe_callB (isiK (K := K) rfl) (by rfl) T.b_isinstance bb_isinstance (pa_cons (pv 0) (pa_cons (pe_bltn (v := .ty "str") (by rfl) T.b_str bb_str rfl) pa_nil))) (pe_and (pe_chain op_le op_le pe_int (pe_callB call_len_str (by rfl) T.b_len bb_len (pa_cons (pv 0) pa_nil)) pe_int) (pe_one (pe_allL hr (by rfl) T.b_all TB rfl (gs_is_sign _ _ _) (pv 0) (fun _ => by rfl) (fun cenv B E2 cc tk t m2 M h1 h2 hn hm bk => el_letter gL M (by rfl) (by rfl) (by rfl) h1 h2 hn hm bk))))))), ?_⟩
    walk_at "rg"
    rcases hb with ⟨z, rfl, hz, rfl⟩ | ⟨hv, rfl⟩
    · obtain ⟨t, ht, hk⟩ := ty_str (K := K) (H := H) z
      refine ⟨_, _, t, _, _, rfl, .ty "str", ht, hk, _, rfl, iteT ⟨z, rfl, by rw [sizeLine_eq]; omega, ?_⟩⟩
      unfold sgB at q
      refine ite2 (fun h1 => ite2 (fun h2 => ?_) (fun h2 => ?_)) (fun h1 => ?_)
      · have h1 := of_decide_eq_true h1
        have h2 := of_decide_eq_true h2
        rw [decide_eq_true (show 1 ≤ z.length by omega), decide_eq_true (show z.length ≤ 8 by omega)] at q
        exact ⟨z, rfl, hT, fun H2 t2 => q H2 (Tabbed.le hT t2)⟩
      · have h2 : ¬ _ := fun z => h2 (decide_eq_true z)
        rw [decide_eq_false (show ¬ z.length ≤ 8 by omega), Bool.false_and, Bool.and_false] at q
        exact q H (.refl H)
      · have h1 : ¬ _ := fun z => h1 (decide_eq_true z)
        rw [decide_eq_false (show ¬ 1 ≤ z.length by omega), Bool.false_and] at q
        exact q H (.refl H)
    · obtain ⟨t, ht, hk⟩ := ty_nostr (K := K) hv
      exact ⟨_, _, t, _, _, rfl, .ty "str", ht, hk, _, rfl, iteF (q H (.refl H))⟩
def spCheckSgn (Pt C : Addr) : Sp := fun vs H Q E => ∃ (v : V) (b : Bool), vs = [v] ∧ SgnB H v b ∧ GxR.TabG H Pt ∧ (b = true → ∀ H', Le H H' → Q .non H') ∧ (b = false → ∀ H', Le H H' → E (.ref C) none H')
abbrev s_check_sign : Stmt := top 17
theorem sc_check_sign : FnScope ["value"] ["value"] (defScope s_check_sign) := ⟨rfl, rfl, rfl, by decide +kernel, rfl, by decide +kernel, by decide +kernel⟩
theorem ok_check_sign {f f1 C Pt : Addr} {fd fd1 : FuncData} (F : Fun K "check_sign" "check_sign" s_check_sign f fd) (x_NoSign : ExX K mg "NoSign" C)
    (c_is_sign : Cal P w K mg base CX0 1 "is_sign" ["value"] (spSgn Pt) f1 fd1) : FnOk P w K mg base (L2.CX P w) 2 f fd ["value"] (spCheckSgn Pt C) := by
  refine F.okX sc_check_sign (fun vs H Q E h => ?_) (fun cdv A outer s H vs Q E hr h => ?_)
  · obtain ⟨v, _, rfl, _⟩ := h
    rfl
  · obtain ⟨v, b, rfl, hb, hT, q1, q2⟩ := h
    refine ⟨_, (pss_one (ps_if (pt_not (pt_val (pe_own c_is_sign (hr.mono (by omega)) rfl (pa_cons (pv 0) pa_nil))))
          (pss_one (ps_raise rfl (takes_of rfl rfl rfl rfl) (pmk_own PySem.F.excBase_ValueError x_NoSign.q x_NoSign.g x_NoSign.k (raises_own x_NoSign.b x_NoSign.t) rfl)))
          pss_nil)), ?_⟩
    walk_at "rg"
    refine ⟨v, b, rfl, hb, hT, fun H' l => ⟨b, rfl, ?_⟩⟩
    cases b with
    | false => exact iteT (q2 rfl H' l)
    | true => exact iteF (q1 rfl H' l)
def spHand (K : PySem.W.Frag) : Sp := fun vs H Q _ => ∃ (n : Int) (v : V) (b : Bool), vs = [.int n, v] ∧ WhB K H v 0 (n - 1) b ∧ Q (.bl b) H
abbrev s_is_hand : Stmt := top 12
theorem sc_is_hand : FnScope ["hands", "value"] ["hands", "value"] (defScope s_is_hand) := ⟨rfl, rfl, rfl, by decide +kernel, rfl, by decide +kernel, by decide +kernel⟩
theorem ok_is_hand {f f1 : Addr} {fd fd1 : FuncData} (F : Fun K "is_hand" "is_hand" s_is_hand f fd) (c_is_whole : Cal P w K mg base CX0 1 "is_whole" ["value", "low", "high"] (spWholeX K) f1 fd1) : FnOk P w K mg base CX0 2 f fd ["hands", "value"] (spHand K) := by
  refine F.ok sc_is_hand (fun vs H Q E h => ?_) (fun cdv A outer s H vs Q E hr h => ?_)
  · obtain ⟨n, v, b, rfl, _⟩ := h
    rfl
  · obtain ⟨n, v, b, rfl, hb, q⟩ := h
    refine ⟨_, (pss_one (ps_ret (pe_own c_is_whole (hr.mono (by omega)) rfl (pa_cons (pv 1) (pa_cons pe_int (pa_cons (pe_op op_sub (pv 0) pe_int) pa_nil)))))), ?_⟩
    walk_at "rg"
    exact ⟨v, 0, n - 1, b, rfl, hb, q⟩
def spCheckHand (K : PySem.W.Frag) (C : Addr) : Sp := fun vs H Q E => ∃ (n : Int) (v : V) (b : Bool), vs = [.int n, v] ∧ WhB K H v 0 (n - 1) b ∧ (b = true → Q .non H) ∧ (b = false → E (.ref C) none H)
abbrev s_check_hand : Stmt := top 18
theorem sc_check_hand : FnScope ["hands", "value"] ["hands", "value"] (defScope s_check_hand) := ⟨rfl, rfl, rfl, by decide +kernel, rfl, by decide +kernel, by decide +kernel⟩
theorem ok_check_hand {f f1 C : Addr} {fd fd1 : FuncData} (F : Fun K "check_hand" "check_hand" s_check_hand f fd) (x_NoHand : ExX K mg "NoHand" C)
    (c_is_hand : Cal P w K mg base CX0 2 "is_hand" ["hands", "value"] (spHand K) f1 fd1) : FnOk P w K mg base (L2.CX P w) 3 f fd ["hands", "value"] (spCheckHand K C) := by
  refine F.okX sc_check_hand (fun vs H Q E h => ?_) (fun cdv A outer s H vs Q E hr h => ?_)
  · obtain ⟨n, v, _, rfl, _⟩ := h
    rfl
  · obtain ⟨n, v, b, rfl, hb, q1, q2⟩ := h
    refine ⟨_, (pss_one (ps_if (pt_not (pt_val (pe_own c_is_hand (hr.mono (by omega)) rfl (pa_cons (pv 0) (pa_cons (pv 1) pa_nil)))))
          (pss_one (ps_raise rfl (takes_of rfl rfl rfl rfl) (pmk_own PySem.F.excBase_ValueError x_NoHand.q x_NoHand.g x_NoHand.k (raises_own x_NoHand.b x_NoHand.t) rfl)))
          pss_nil)), ?_⟩
    walk_at "rg"
    refine ⟨n, v, b, rfl, hb, b, rfl, ?_⟩
    cases b with
    | false => exact iteT (q2 rfl)
    | true => exact iteF (q1 rfl)
/-! ### is_hand where nothing is stored -/
theorem pure_whole {A : Around} {s : Shared} {f1 : Addr} {fd1 : FuncData} (F1 : Fun K "is_whole" "is_whole" s_is_whole f1 fd1) (T : Bt mg) (b1 : Binds K fd1 ["value", "low", "high"] []) (M : L2.Mod K mg base) (bk : BK base s) (room : A.depth < recursionLimit) (v l h : Int) (tv tl th : Tok) :
    codeAny (model P w) A (.call (.ref f1) ⟨[.int v tv, .int l tl, .int h th], []⟩) (fun r s' => r = .ok (.ret (.bool (decide (l ≤ v) && decide (v ≤ h)))) ∧ Keeps s s') s := by
  refine pure_def F1 sc_is_whole b1 M bk room rfl fun cdv s1 E z => ?_
  obtain ⟨h1, tk, rfl, keep⟩ := z.done
  have bk1 : ∀ k, BK base { s with heap := h1, toks := k } := fun k b o e => keep b o (bk b o e)
  have kp1 : ∀ k, Keeps s { s with heap := h1, toks := k } := fun k => ⟨h1, k, rfl, keep⟩
  have hn := z.toInCall.ns
  have KX : ∀ k, K.In ({ s with heap := h1, toks := k } : Shared).heap := fun k => M.kin.keeps (bk1 k)
  refine wpAny_execs_cons (wpAny_Return_some ?_)
  refine BoolOp_and (wpAny_Call_Name_kw (nm_blt M (bk1 _) rfl (by rfl) rfl rfl T.b_isinstance bb_isinstance ?_))
  refine Calls.callWith_builtin rfl (Calls.evalArgs_plain (Calls.spliced_cons (nm_loc (u := .int v tv) hn rfl (by rfl) (by rfl) (Calls.spliced_cons (nm_blt M (bk1 _) rfl (by rfl) rfl rfl T.b_int bb_int (Calls.spliced_nil ?_))))))
  refine PySem.W.kia_one PySem.W.kitx_int (KX _) trivial (kit_ty (a := "int") (b := "int") (r := true) (by decide +kernel)) (fun z => nomatch z) fun tk1 => wpAny_truthy_bool ?_
  show wpAny _ _ _ _ _ _
  refine BoolOp_and (UnaryOp_ (wpAny_Call_Name_kw (nm_blt M (bk1 _) rfl (by rfl) rfl rfl T.b_isinstance bb_isinstance ?_)))
  refine Calls.callWith_builtin rfl (Calls.evalArgs_plain (Calls.spliced_cons (nm_loc (u := .int v tv) hn rfl (by rfl) (by rfl) (Calls.spliced_cons (nm_blt M (bk1 _) rfl (by rfl) rfl rfl T.b_bool bb_bool (Calls.spliced_nil ?_))))))
  refine PySem.W.kia_one PySem.W.kitx_int (KX _) trivial (kit_ty (a := "int") (b := "bool") (r := false) (by decide +kernel)) (fun z => nomatch z) fun tk2 => not_of (wpAny_truthy_bool (wpAny_truthy_bool ?_))
  show wpAny _ _ _ _ _ _
  refine BoolOp_one (Compare_chain (nm_loc (u := .int l tl) hn rfl (by rfl) (by rfl) (chain_link (nm_loc (u := .int v tv) hn rfl (by rfl) (by rfl) (PyProof.Rows.le_int (wpAny_truthy_bool ?_))))))
  by_cases hlv : l ≤ v
  · rw [decide_eq_true hlv, Bool.true_and]
    show wpAny _ _ _ _ _ _
    exact chain_last (nm_loc (u := .int h th) hn rfl (by rfl) (by rfl) (PyProof.Rows.le_int ⟨rfl, kp1 _⟩))
  · rw [decide_eq_false hlv, Bool.false_and]
    exact ⟨rfl, kp1 _⟩
theorem pure_hand {A : Around} {s : Shared} {f1 f2 : Addr} {fd1 fd2 : FuncData} (F1 : Fun K "is_whole" "is_whole" s_is_whole f1 fd1) (F2 : Fun K "is_hand" "is_hand" s_is_hand f2 fd2) (T : Bt mg) (g1 : mg "is_whole" = some (.ref f1)) (b1 : Binds K fd1 ["value", "low", "high"] []) (b2 : Binds K fd2 ["hands", "value"] []) (M : L2.Mod K mg base) (bk : BK base s) (room : A.depth + 1 < recursionLimit) (n v : Int) (tn tv : Tok) :
    codeAny (model P w) A (.call (.ref f2) ⟨[.int n tn, .int v tv], []⟩) (fun r s' => r = .ok (.ret (.bool (decide (0 ≤ v) && decide (v ≤ n - 1)))) ∧ Keeps s s') s := by
  refine pure_def F2 sc_is_hand b2 M bk (by omega) rfl fun cdv s1 E z => ?_
  obtain ⟨h1, tk, rfl, keep⟩ := z.done
  have bk1 : ∀ k, BK base { s with heap := h1, toks := k } := fun k b o e => keep b o (bk b o e)
  have kp1 : ∀ k, Keeps s { s with heap := h1, toks := k } := fun k => ⟨h1, k, rfl, keep⟩
  have hn := z.toInCall.ns
  refine wpAny_execs_cons (wpAny_Return_some ?_)
  refine nm_call M (bk1 _) rfl (by rfl) rfl g1 F1.kp ?_
  refine Calls.spliced_cons (nm_loc (u := .int v tv) hn rfl (by rfl) (by rfl) (Calls.spliced_cons (wpAny_Constant_int (k := 0) (pos := ⟨0, 0, 0, 0⟩) (Calls.spliced_cons (wpAny_BinOp (nm_loc (u := .int n tn) hn rfl (by rfl) (by rfl) (wpAny_Constant_int (k := 0) (pos := ⟨0, 0, 0, 0⟩) (PySem.P.sub_int (Calls.spliced_nil ?_)))))))))
  refine ⟨bk1 _, codeAny_mono (pure_whole F1 T b1 M (bk1 _) (by show A.depth + 1 < _; omega) v 0 (n - 1) _ _ _) fun r s' hr => ?_⟩
  obtain ⟨rfl, hk⟩ := hr
  exact ⟨rfl, kp_trans (kp1 _) hk⟩

/-! ### paths and pairs -/
theorem depth_ok {k : Nat} {A B : Around} (hr : Room k A) (h : B.depth ≤ A.depth + 1) : B.depth + 1 < recursionLimit := by
  have := hr.dp
  omega
theorem el_hand {f1 f2 : Addr} {fd1 fd2 : FuncData} (F1 : Fun K "is_whole" "is_whole" s_is_whole f1 fd1) (F2 : Fun K "is_hand" "is_hand" s_is_hand f2 fd2) (T : Bt mg) (g1 : mg "is_whole" = some (.ref f1)) (g2 : mg "is_hand" = some (.ref f2)) (b1 : Binds K fd1 ["value", "low", "high"] []) (b2 : Binds K fd2 ["hands", "value"] []) (M : L2.Mod K mg base)
    {scope : Scope} {N : List Str} {env cenv : Env} {B : Around} {E2 : Value → Shared → Prop} {v : Int} {tk : Tok} {t s1 : Shared} {m m2 : Str → Option Value} {σ : L2.St} {p1 p2 p3 p4 : Pos}
    (hk : scope.kind = .function) (hx1 : scope.names.lookup ("is_hand" : Str) = some .globalImplicit) (hx2 : scope.names.lookup ("hands" : Str) = some .free) (hx3 : scope.names.lookup ("hand" : Str) = some .local)
    (hclo : ∀ cells : List (Str × Addr), (cloFrom cells scope.names []).lookup ("hands" : Str) = some ((cells.lookup ("hands" : Str)).getD 0)) (hv : env.kindOf "hands" = some .cell)
    (h1 : cenv.scope = scope) (h2 : cenv.globals = mainGlobals) (h4 : cenv.cells = cloFrom env.cells scope.names []) (h5 : B.handled = none) (room : B.depth + 1 < recursionLimit)
    (hp : ∃ n : Int, σ[0]? = some (some (.int n))) (hN : ∀ (i : Nat) (y : Str) (v : V), N[i]? = some y → σ[i]? = some (some v) → Vis env.scope y → ∃ u, RelV v u ∧ Look env s1.heap m y u) (hN0 : N[0]? = some ("hands" : Str) := by rfl)
    (hn : t.heap.Ns cenv.locals m2) (hm : m2 "hand" = some (.int v tk)) (bk : BK base t) (hcell : ∀ (a : Addr) (u : Option Value), (∃ y, env.cells.lookup y = some a) → s1.heap.IsCell a u → t.heap.IsCell a u) :
    wpAny (model P w) B (eval (.Call (.Name "is_hand" p1) [.Name "hands" p2, .Name "hand" p3] [] p4) cenv) (fun y t' => y = .bool (decide (0 ≤ v) && decide (v ≤ iv ((σ[0]?.join).getD .non) - 1)) ∧ Keeps t t') E2 t := by
  obtain ⟨n, hp⟩ := hp
  obtain ⟨u, ru, hl⟩ := hN 0 "hands" (.int n) hN0 hp (.inr (.inl hv))
  obtain ⟨tn, rfl⟩ := (show ∃ tn, u = Value.int n tn from ru)
  rcases hl with ⟨hl, _⟩ | ⟨_, c, hc, hcv⟩
  · rw [hv] at hl
    cases hl
  · have hc2 : cenv.cells.lookup ("hands" : Str) = some c := by rw [h4, hclo, hc]; rfl
    refine nm_call M bk (by rw [h1]; exact hk) (by show cenv.scope.names.lookup _ = _; rw [h1]; exact hx1) h2 g2 F2.kp ?_
    refine Calls.spliced_cons (nm_free (u := .int n tn) (by rw [h1]; exact hk) (by show cenv.scope.names.lookup _ = _; rw [h1]; exact hx2) hc2 (hcell c _ ⟨_, hc⟩ hcv) (Calls.spliced_cons (nm_loc (u := .int v tk) hn (by rw [h1]; exact hk) (by show cenv.scope.names.lookup _ = _; rw [h1]; exact hx3) hm (Calls.spliced_nil ?_))))
    refine ⟨bk, codeAny_mono (pure_hand F1 F2 T g1 b1 b2 M bk room n v tn tk) fun r s' hr => ?_⟩
    obtain ⟨rfl, hk2⟩ := hr
    refine ⟨?_, hk2⟩
    rw [hp]
    rfl
/-- the numbers p are a path of the rounds rs -/
def pathB (n : Int) (rs p : List Int) : Bool := decide ((p.length : Int) ∈ rs) && (p.all (fun v => decide (0 ≤ v) && decide (v ≤ n - 1)) && (decide (p.head? = some 0) && decide p.Nodup))
/-- v is nothing, a number, a text, a truth value -/
def PlainV (v : V) : Prop := v = .non ∨ (∃ i, v = .int i) ∨ (∃ z, v = .str z) ∨ ∃ x, v = .bl x
def PathB (H : Hp) (n : Int) (rs : List Int) (v : V) (b : Bool) : Prop := (PlainV v ∧ b = false) ∨ ∃ a p, v = .ref a ∧ H a = some (.tup (p.map .int)) ∧ p.length ≤ 1000 ∧ b = pathB n rs p
theorem PathB.le {H H' : Hp} {n : Int} {rs : List Int} {v : V} {b : Bool} (h : PathB H n rs v b) (l : Le H H') : PathB H' n rs v b := by
  rcases h with h | ⟨a, p, e, ha, h⟩
  · exact .inl h
  · exact .inr ⟨a, p, e, l.tup ha, h⟩
theorem ty_notup {K : PySem.W.Frag} {H : Hp} {v : V} (h : PlainV v) : ∃ t, TyX K H v t ∧ PySem.W.kitOne K t (.type "tuple") = some false := by
  rcases h with rfl | ⟨z, rfl⟩ | ⟨x, rfl⟩ | ⟨x, rfl⟩
  · exact ⟨_, .base .non, kit_ty (a := "NoneType") (b := "tuple") (r := false) (by decide +kernel)⟩
  · exact ⟨_, .base (.int z), kit_ty (a := "int") (b := "tuple") (r := false) (by decide +kernel)⟩
  · exact ⟨_, .base (.str x), kit_ty (a := "str") (b := "tuple") (r := false) (by decide +kernel)⟩
  · exact ⟨_, .base (.bl x), kit_ty (a := "bool") (b := "tuple") (r := false) (by decide +kernel)⟩
theorem ty_tup {K : PySem.W.Frag} {H : Hp} {a : Addr} {xs : List V} (h : H a = some (.tup xs)) : ∃ t, TyX K H (.ref a) t ∧ PySem.W.kitOne K t (.type "tuple") = some true := ⟨_, .base (.tup h), kit_ty (a := "tuple") (b := "tuple") (r := true) (by decide +kernel)⟩
def spPath (K : PySem.W.Frag) (Pt : Addr) : Sp := fun vs H Q _ => ∃ (n : Int) (ra : Addr) (rs : List Int) (v : V) (b : Bool), vs = [.int n, .ref ra, v] ∧ H ra = some (.lst (rs.map .int)) ∧ (∀ r ∈ rs, 1 ≤ r) ∧ PathB H n rs v b ∧ GxR.TabG H Pt ∧ ∀ H', Le H H' → Q (.bl b) H'
abbrev s_is_path : Stmt := top 14
theorem sc_is_path : FnScope ["hands", "rounds", "value", "hand"] ["hands", "rounds", "value"] (defScope s_is_path) := ⟨rfl, rfl, rfl, by decide +kernel, rfl, by decide +kernel, by decide +kernel⟩
theorem gs_is_path (X : Cx) (scope : Scope) (x : Str) (hv : X.env.scope = defScope s_is_path := by rfl) (hce : ∃ n, X.env.cells = cellsFrom n (defScope s_is_path).names [] := by exact ⟨_, rfl⟩) (hk : scope.kind = .function := by rfl) (hco : scope.isCoroutine = false := by rfl) (hc : ∀ y ∈ scope.names, y.2 ≠ .cell := by decide +kernel) (hd : scope.names.lookup (".0" : Str) = some NameKind.local := by rfl) (hx : scope.names.lookup x = some .local := by rfl)
    (hf : ∀ y ∈ scope.names, y.2 = .free → y.1 = ("hands" : Str) := by decide +kernel) : GxR.GenS X.env scope x := ⟨hk, hco, hc, hd, hx, fun y hy h => by
  obtain ⟨n, hn⟩ := hce
  rw [hf y hy h, hn]
  exact cell_has rfl⟩
theorem ok_is_path {f f1 f2 c Pt : Addr} {fd fd1 fd2 : FuncData} (F : Fun K "is_path" "is_path" s_is_path f fd) (T : Bt mg) (hcode : fd.code = .ref c) (TB : GxR.TabB base mg c Pt) (F1 : Fun K "is_whole" "is_whole" s_is_whole f1 fd1) (F2 : Fun K "is_hand" "is_hand" s_is_hand f2 fd2) (g1 : mg "is_whole" = some (.ref f1)) (g2 : mg "is_hand" = some (.ref f2)) (b1 : Binds K fd1 ["value", "low", "high"] []) (b2 : Binds K fd2 ["hands", "value"] []) :
    FnOk P w K mg base CX0 3 f fd ["hands", "rounds", "value"] (spPath K Pt) := by
  refine fun_okC F hcode sc_is_path (fun vs H Q E h => ?_) (fun A outer s H vs Q E hr h => ?_)
  · obtain ⟨n, ra, rs, v, b, rfl, _⟩ := h
    rfl
  · obtain ⟨n, ra, rs, v, b, rfl, hra, hrs, hb, hT, q⟩ := h
    refine ⟨_, (pss_cons (ps_if (PW.pt (pw_or (pt_not (pt_val (pe_callB (isiK (K := K) rfl) (by rfl) T.b_isinstance bb_isinstance (pa_cons (pv 2) (pa_cons (pe_bltn (v := .ty "tuple") (by rfl) T.b_tuple bb_tuple rfl) pa_nil))))) (pw_or1 (pt_cmpR (notIn_seqK (K := K) rfl) (pe_callB (len_seqK (K := K) rfl) (by rfl) T.b_len bb_len (pa_cons (pv 2) pa_nil)) (pv 1) rfl))))
          (pss_one (ps_ret pe_bl))
          pss_nil)
        (pss_cons (ps_if (pt_not (pt_val (pe_allI (Ps := fun σ => ∃ n : Int, σ[0]? = some (some (V.int n))) (pb := fun σ v => decide (0 ≤ v) && decide (v ≤ iv ((σ[0]?.join).getD .non) - 1)) hr (by rfl) T.b_all TB rfl (gs_is_path _ _ _) (pv 2) (fun _ => by rfl) (fun σ m s1 cenv B E2 z tk t m2 M hp hl h1 h2 h3 h4 h5 h6 h7 hn hm bk hcell => el_hand (σ := σ) (m := m) (s1 := s1) F1 F2 T g1 g2 b1 b2 M (by rfl) (by rfl) (by rfl) (by rfl) (fun _ => by rfl) (by rfl) h1 h2 h4 h5 (depth_ok hr h6) hp hl (by rfl) hn hm bk hcell))))
          (pss_one (ps_ret pe_bl))
          pss_nil)
        (pss_one (ps_ret (pe_and (pe_cmpR op_eq (pe_ix (ix_tupK (K := K) rfl) (pv 2) pe_int (fun _ _ => rfl)) pe_int (nomark _)) (pe_one (pe_cmpR op_eq (pe_lenSetT rfl (by rfl) T.b_len (by rfl) T.b_set (pv 2)) (pe_callB (len_seqK (K := K) rfl) (by rfl) T.b_len bb_len (pa_cons (pv 2) pa_nil)) (nomark _)))))))), ?_⟩
    walk_at "rg"
    rcases hb with ⟨hv, rfl⟩ | ⟨a, p, rfl, ha, hpl, rfl⟩
    · obtain ⟨t, ht, hk⟩ := ty_notup (K := K) (H := H) hv
      exact ⟨_, _, t, _, _, rfl, .ty "tuple", ht, hk, _, rfl, iteT (q H (.refl H))⟩
    · obtain ⟨t, ht, hk⟩ := ty_tup (K := K) ha
      refine ⟨_, _, t, _, _, rfl, .ty "tuple", ht, hk, _, rfl, iteF ⟨a, _, rfl, .inr (.of ha), ra, _, rfl, .inl (.of hra), rfl, ints_flat rs, ?_⟩⟩
      rw [inV_ints, List.length_map]
      unfold pathB at q
      refine ⟨_, rfl, ?_⟩
      by_cases h1 : (p.length : Int) ∈ rs
      · rw [decide_eq_true h1] at q ⊢
        refine iteF ⟨⟨n, rfl⟩, a, rfl, p, ha, hT, fun H2 t2 => ?_⟩
        have l2 := Tabbed.le hT t2
        have ha2 := l2.tup ha
        show if (!p.all fun v => decide (0 ≤ v) && decide (v ≤ n - 1)) = true then _ else _
        cases hall : p.all fun v => decide (0 ≤ v) && decide (v ≤ n - 1) with
        | false =>
          rw [hall] at q
          exact iteT (q H2 l2)
        | true =>
          rw [hall] at q
          have hpos : 0 < p.length := by
            have := hrs _ h1
            omega
          obtain ⟨x0, tl, rfl⟩ : ∃ x0 tl, p = x0 :: tl := by
            cases p with
            | nil => simp at hpos
            | cons a t => exact ⟨a, t, rfl⟩
          refine iteF ⟨a, _, _, .int x0, rfl, rfl, .of ha2, at_of (j := 0) (by omega) rfl, rfl, ?_⟩
          by_cases hx0 : x0 = 0
          · subst hx0
            refine iteT ⟨a, rfl, _, ha2, hpl, fun cc hc1 hc2 => ⟨a, _, rfl, .inr (.of ha2), rfl, ?_⟩⟩
            have q2 := q H2 l2
            have e : decide (V.int (cc : Nat) = V.int ((List.map V.int (0 :: tl)).length : Nat)) = decide (List.Nodup (0 :: tl)) := by
              rw [List.length_map]
              refine decide_eq_decide.mpr ⟨fun e => ?_, fun e => by rw [hc1 e]⟩
              injection e with e
              by_cases hnd : List.Nodup (0 :: tl)
              · exact hnd
              · have := hc2 hnd
                omega
            rw [e]
            rw [decide_eq_true (show (0 :: tl).head? = some 0 from rfl)] at q2
            exact q2
          · have e : ¬ (V.int x0 = V.int 0) := fun z => by injection z with z; exact hx0 z
            rw [decide_eq_false e]
            have q2 := q H2 l2
            rw [decide_eq_false (show ¬ (x0 :: tl).head? = some 0 from fun z => hx0 (Option.some.inj z))] at q2
            exact iteF q2
      · rw [decide_eq_false h1] at q ⊢
        exact iteT (q H (.refl H))
/-- a pair (path, hearer) -/
def sayB (n : Int) (ls rs p : List Int) (h : Int) : Bool := pathB n rs p && (decide (lastM p ∈ ls) && (decide (0 ≤ h) && decide (h ≤ n - 1) && decide (h ∉ p)))
/-- v is a pair of a path of the rounds rs whose last is of ls, and of a hearer; or none such -/
def SayB (K : PySem.W.Frag) (H : Hp) (n : Int) (ls rs : List Int) (v : V) (b : Bool) : Prop :=
  (PlainV v ∧ b = false) ∨ ∃ a xs, v = .ref a ∧ H a = some (.tup xs) ∧ ((xs.length ≠ 2 ∧ xs.length ≤ 1000 ∧ b = false) ∨ ∃ y z, xs = [y, z] ∧
    ((PlainV y ∧ b = false) ∨ ∃ c p, y = .ref c ∧ H c = some (.tup (p.map .int)) ∧ p.length ≤ 1000 ∧ ((∃ h, z = .int h ∧ b = sayB n ls rs p h) ∨ (WhB K H z 0 (n - 1) false ∧ b = false))))
theorem SayB.le {K : PySem.W.Frag} {H H' : Hp} {n : Int} {ls rs : List Int} {v : V} {b : Bool} (h : SayB K H n ls rs v b) (l : Le H H') : SayB K H' n ls rs v b := by
  rcases h with h | ⟨a, xs, e, ha, h⟩
  · exact .inl h
  · refine .inr ⟨a, xs, e, l.tup ha, ?_⟩
    rcases h with h | ⟨y, z, e2, h⟩
    · exact .inl h
    · refine .inr ⟨y, z, e2, ?_⟩
      rcases h with h | ⟨c, p, e3, hc, hl, h⟩
      · exact .inl h
      · refine .inr ⟨c, p, e3, l.tup hc, hl, ?_⟩
        rcases h with h | ⟨h, hb⟩
        · exact .inl h
        · exact .inr ⟨h.le l, hb⟩
def spSaying (K : PySem.W.Frag) (Pt : Addr) : Sp := fun vs H Q _ => ∃ (n : Int) (la ra : Addr) (ls rs : List Int) (v : V) (b : Bool), vs = [.int n, .ref la, .ref ra, v] ∧ SqA K H la (ls.map .int) ∧ H ra = some (.lst (rs.map .int)) ∧ (∀ r ∈ rs, 1 ≤ r) ∧ SayB K H n ls rs v b ∧ GxR.TabG H Pt ∧ ∀ H', Le H H' → Q (.bl b) H'
abbrev s_is_saying : Stmt := top 15
theorem sc_is_saying : FnScope ["hands", "liars", "rounds", "value", "path", "hearer"] ["hands", "liars", "rounds", "value"] (defScope s_is_saying) := ⟨rfl, rfl, rfl, by decide +kernel, rfl, by decide +kernel, by decide +kernel⟩
theorem ok_is_saying {f f1 f2 Pt : Addr} {fd fd1 fd2 : FuncData} (F : Fun K "is_saying" "is_saying" s_is_saying f fd) (T : Bt mg)
    (c_is_path : Cal P w K mg base CX0 3 "is_path" ["hands", "rounds", "value"] (spPath K Pt) f1 fd1) (c_is_hand : Cal P w K mg base CX0 2 "is_hand" ["hands", "value"] (spHand K) f2 fd2) : FnOk P w K mg base CX0 4 f fd ["hands", "liars", "rounds", "value"] (spSaying K Pt) := by
  refine F.ok sc_is_saying (fun vs H Q E h => ?_) (fun cdv A outer s H vs Q E hr h => ?_)
  · obtain ⟨n, la, ra, ls, rs, v, b, rfl, _⟩ := h
    rfl
  · obtain ⟨n, la, ra, ls, rs, v, b, rfl, hla, hra, hrs, hb, hT, q⟩ := h
    refine ⟨_, (pss_cons (ps_if (PW.pt (pw_or (pt_not (pt_val (pe_callB (isiK (K := K) rfl) (by rfl) T.b_isinstance bb_isinstance (pa_cons (pv 3) (pa_cons (pe_bltn (v := .ty "tuple") (by rfl) T.b_tuple bb_tuple rfl) pa_nil))))) (pw_or1 (pt_cmpR op_ne (pe_callB (len_seqK (K := K) rfl) (by rfl) T.b_len bb_len (pa_cons (pv 3) pa_nil)) pe_int (nomark _)))))
          (pss_one (ps_ret pe_bl))
          pss_nil)
        (pss_cons (ps_asg (pv 3) (pg_tupK (K := K) (n := 2) rfl rfl (pgs_cons (pg_name (i := 4) sc_is_saying.nd rfl (Or.inl rfl)) (pgs_cons (pg_name (i := 5) sc_is_saying.nd rfl (Or.inl rfl)) pgs_nil))))
        (pss_cons (ps_if (PW.pt (pw_or (pt_not (pt_val (pe_own c_is_path (hr.mono (by omega)) rfl (pa_cons (pv 0) (pa_cons (pv 2) (pa_cons (pv 4) pa_nil)))))) (pw_or1 (pt_cmpR (notIn_seqK (K := K) rfl) (pe_ix (ix_tupK (K := K) rfl) (pv 4) (pe_un un_neg pe_int) (fun _ _ => rfl)) (pv 1) rfl))))
          (pss_one (ps_ret pe_bl))
          pss_nil)
        (pss_one (ps_ret (pe_and (pe_own c_is_hand (hr.mono (by omega)) rfl (pa_cons (pv 0) (pa_cons (pv 5) pa_nil))) (pe_one (pe_cmpR (notIn_seqK (K := K) rfl) (pv 5) (pv 4) rfl)))))))), ?_⟩
    walk_at "rg"
    rcases hb with ⟨hv, rfl⟩ | ⟨a, xs, rfl, ha, hb⟩
    · obtain ⟨t, ht, hk⟩ := ty_notup (K := K) (H := H) hv
      exact ⟨_, _, t, _, _, rfl, .ty "tuple", ht, hk, _, rfl, iteT (q H (.refl H))⟩
    · obtain ⟨t, ht, hk⟩ := ty_tup (K := K) ha
      refine ⟨_, _, t, _, _, rfl, .ty "tuple", ht, hk, _, rfl, iteF ⟨a, _, rfl, .inr (.of ha), rfl, ?_⟩⟩
      rcases hb with ⟨hl, _, rfl⟩ | ⟨y, z, rfl, hb⟩
      · rw [decide_eq_false (fun e => hl (by injection e with e; omega))]
        exact iteT (q H (.refl H))
      · refine iteF ⟨a, rfl, [y, z], .of ha, rfl, y, [z], rfl, z, [], rfl, rfl, ?_⟩
        rcases hb with ⟨hy, rfl⟩ | ⟨c, p, rfl, hc, hl, hb⟩
        · exact ⟨n, ra, rs, y, false, rfl, hra, hrs, .inl ⟨hy, rfl⟩, hT, fun H' l => ⟨false, rfl, iteT (q H' l)⟩⟩
        · refine ⟨n, ra, rs, .ref c, pathB n rs p, rfl, hra, hrs, .inr ⟨c, p, rfl, hc, hl, rfl⟩, hT, fun H' l => ⟨_, rfl, ?_⟩⟩
          have q2 := q H' l
          have hc2 := l.tup hc
          cases hpb : pathB n rs p with
          | false =>
            have e : b = false := by
              rcases hb with ⟨h, _, rfl⟩ | ⟨_, e⟩
              · unfold sayB
                rw [hpb]
                rfl
              · exact e
            rw [e] at q2
            exact iteT q2
          | true =>
            have hpos : 1 ≤ p.length := by
              have h0 := hpb
              unfold pathB at h0
              rw [Bool.and_eq_true, decide_eq_true_eq] at h0
              have := hrs _ h0.1
              omega
            refine iteF ⟨c, _, _, _, rfl, rfl, .of hc2, at_lastM hpos, la, _, rfl, hla.le l, rfl, ints_flat ls, ?_⟩
            rw [inV_ints]
            refine ⟨_, rfl, ?_⟩
            by_cases hlast : lastM p ∈ ls
            · rw [decide_eq_true hlast]
              refine iteF ?_
              rcases hb with ⟨h, rfl, rfl⟩ | ⟨hz, rfl⟩
              · unfold sayB at q2
                rw [hpb, decide_eq_true hlast] at q2
                refine ⟨n, _, _, rfl, .inl ⟨h, rfl, rfl⟩, _, rfl, ?_⟩
                cases hr : decide (0 ≤ h) && decide (h ≤ n - 1) with
                | false =>
                  rw [hr] at q2
                  exact iteF q2
                | true =>
                  rw [hr] at q2
                  refine iteT ⟨c, _, rfl, .inr (.of hc2), rfl, ints_flat p, ?_⟩
                  rw [inV_ints]
                  have e : (!decide (h ∈ p)) = decide (h ∉ p) := by by_cases hh : h ∈ p <;> simp [hh]
                  show Q (.bl (!decide (h ∈ p))) H'
                  rw [e]
                  exact q2
              · exact ⟨n, z, false, rfl, hz.le l, false, rfl, iteF q2⟩
            · rw [decide_eq_false hlast]
              have e : b = false := by
                rcases hb with ⟨h, _, rfl⟩ | ⟨_, e⟩
                · unfold sayB
                  rw [hpb, decide_eq_false hlast]
                  rfl
                · exact e
              rw [e] at q2
              exact iteT q2
/-- the values xs are unlike hands, or which is the first that is none -/
def LiarsB (K : PySem.W.Frag) (H : Hp) (n : Int) (xs : List V) (b : Bool) : Prop := ∃ ns : List Int, ns.Nodup ∧ (∀ z ∈ ns, 0 ≤ z ∧ z < n) ∧
  ((xs = ns.map .int ∧ b = true) ∨ ∃ y r, xs = ns.map .int ++ y :: r ∧ (WhB K H y 0 (n - 1) false ∨ ∃ z ∈ ns, y = .int z) ∧ b = false)
theorem LiarsB.le {K : PySem.W.Frag} {H H' : Hp} {n : Int} {xs : List V} {b : Bool} (h : LiarsB K H n xs b) (l : Le H H') : LiarsB K H' n xs b := by
  obtain ⟨ns, h1, h2, h⟩ := h
  refine ⟨ns, h1, h2, h.imp id fun ⟨y, r, e, hy, hb⟩ => ⟨y, r, e, hy.imp (fun w => w.le l) id, hb⟩⟩
theorem LiarsB.good {K : PySem.W.Frag} {H : Hp} {n : Int} {ns : List Int} (h1 : ns.Nodup) (h2 : ∀ z ∈ ns, 0 ≤ z ∧ z < n) : LiarsB K H n (ns.map .int) true := ⟨ns, h1, h2, .inl ⟨rfl, rfl⟩⟩
theorem cut_take (xs : List V) (i : Nat) (h : i ≤ xs.length) : cutV xs none (some (i : Int)) = xs.take i := by
  unfold cutV
  have e1 : HT.sIx xs.length 0 none = 0 := rfl
  have e2 : HT.sIx xs.length xs.length (some (i : Int)) = i := by
    unfold HT.sIx
    dsimp only
    rw [if_neg (by omega)]
    omega
  rw [e1, e2, List.drop_zero, Nat.sub_zero]
def spCheckLiars (K : PySem.W.Frag) (C : Addr) : Sp := fun vs H Q E => ∃ (n : Int) (a : Addr) (xs : List V) (b : Bool), vs = [.int n, .ref a] ∧ SqA K H a xs ∧ xs.length ≤ 100 ∧ LiarsB K H n xs b ∧ (b = true → ∀ H', Le H H' → Q .non H') ∧ (b = false → ∀ H', Le H H' → E (.ref C) none H')
abbrev s_check_liars : Stmt := top 19
theorem sc_check_liars : FnScope ["hands", "liars", "at", "liar"] ["hands", "liars"] (defScope s_check_liars) := ⟨rfl, rfl, rfl, by decide +kernel, rfl, by decide +kernel, by decide +kernel⟩
theorem ok_check_liars {f f1 C : Addr} {fd fd1 : FuncData} (F : Fun K "check_liars" "check_liars" s_check_liars f fd) (T : Bt mg) (x_NoHand : ExX K mg "NoHand" C)
    (cx_check_hand : Cal P w K mg base (L2.CX P w) 3 "check_hand" ["hands", "value"] (spCheckHand K C) f1 fd1) : FnOk P w K mg base (L2.CX P w) 4 f fd ["hands", "liars"] (spCheckLiars K C) := by
  refine F.okX sc_check_liars (fun vs H Q E h => ?_) (fun cdv A outer s H vs Q E hr h => ?_)
  · obtain ⟨n, a, xs, _, rfl, _⟩ := h
    rfl
  · obtain ⟨n, a, xs, b, rfl, ha, hl, ⟨ns, hnd, hin, hb⟩, q1, q2⟩ := h
    refine ⟨_, (pss_one (ps_for (passes_of rfl) rfl (pi_enumA (K := K) rfl (by rfl) T.b_enumerate (pa_cons (pv 1) pa_nil)) (pg_tupK (K := K) (n := 2) rfl rfl (pgs_cons (pg_name (i := 2) sc_check_liars.nd rfl (Or.inl rfl)) (pgs_cons (pg_name (i := 3) sc_check_liars.nd rfl (Or.inl rfl)) pgs_nil)))
          (pss_cons (ps_expr (pe_ownS cx_check_hand (hr.mono (by omega)) rfl (takes_of rfl rfl rfl rfl) (pa_cons (pv 0) (pa_cons (pv 3) pa_nil))))
          (pss_one (ps_if (pt_cmpR (in_seqK (K := K) rfl) (pv 3) (pe_slice (sl_LT (K := K) rfl) (pv 1) po_none (po_some (pv 2))) rfl)
            (pss_one (ps_raise rfl (takes_of rfl rfl rfl rfl) (pmk_own PySem.F.excBase_ValueError x_NoHand.q x_NoHand.g x_NoHand.k (raises_own x_NoHand.b x_NoHand.t) rfl)))
            pss_nil))))), ?_⟩
    walk_at "rg"
    refine ⟨xs, ha, fun J G hG g0 wk => ?_⟩
    have hle : ns.length ≤ xs.length := by
      rcases hb with ⟨e, _⟩ | ⟨y, r, e, _⟩
      · rw [e, List.length_map]
        exact Nat.le_refl _
      · rw [e, List.length_append, List.length_map]
        omega
    have hpre : ∀ i, i ≤ ns.length → xs.take i = (ns.take i).map .int := fun i hi => by
      rcases hb with ⟨e, _⟩ | ⟨y, r, e, _⟩
      · rw [e, List.map_take]
      · rw [e, List.take_append_of_le_length (by rw [List.length_map]; exact hi), List.map_take]
    have hat : ∀ i (h : i < ns.length), xs[i]? = some (.int ns[i]) := fun i hi => by
      rcases hb with ⟨e, _⟩ | ⟨y, r, e, _⟩
      · rw [e, List.getElem?_map, List.getElem?_eq_getElem hi]
        rfl
      · rw [e, List.getElem?_append_left (by rw [List.length_map]; exact hi), List.getElem?_map, List.getElem?_eq_getElem hi]
        rfl
    refine for_it wk (fun i σ H' => ∃ v2 v3 : Option V, σ = [some (.int n), some (.ref a), v2, v3] ∧ Le H H' ∧ i ≤ ns.length) ⟨_, _, rfl, .refl H, Nat.zero_le _⟩ (fun i σ H' _ ⟨_, _, _, l, _⟩ => hG _ _ l g0) ?_ ?_
    · rintro i x σ H2 H3 hi ⟨v2, v3, rfl, l2, hin2⟩ ⟨T2, y, rfl, hT2, rfl, hy⟩
      walk_at "rg"
      have lT : Le H2 (L2.upd H2 T2 (.tup [.int i, y])) := .new hT2
      refine ⟨[.int i, y], .of upd_same, rfl, _, _, rfl, _, _, rfl, rfl, ?_⟩
      have aft : ∀ (z : Int) (W : Hp → Prop), y = .int z → (z ∉ ns.take i → ∀ H', Le H H' → W H') → (z ∈ ns.take i → ∀ H', Le H H' → E (.ref C) none H') →
          ∃ i_1, V.int i = V.int i_1 ∧ rSlLT K (V.ref a) none (some i_1) (L2.upd H2 T2 (.tup [.int i, y])) fun y1 H2 => rIn K false y y1 H2 fun x H' => ∃ k, x = V.bl k ∧ if k = true then E (Value.ref C) none H' else W H' := fun z W ez w1 w2 => by
        subst ez
        refine ⟨i, rfl, a, xs, rfl, ha.le (l2.trans lT), fun p H' l hp => ?_⟩
        rw [cut_take xs i (by omega), hpre i (by omega)] at hp
        refine ⟨p, _, rfl, hp, rfl, ints_flat _, ?_⟩
        rw [inV_ints]
        refine ⟨_, rfl, ?_⟩
        by_cases hz : z ∈ ns.take i
        · rw [decide_eq_true hz]
          exact iteT (w2 hz H' ((l2.trans lT).trans l))
        · rw [decide_eq_false hz]
          exact iteF (w1 hz H' ((l2.trans lT).trans l))
      by_cases hlt : i < ns.length
      · rw [hat i hlt] at hy
        have ez : y = .int ns[i] := (Option.some.inj hy).symm
        have hz := hin _ (List.getElem_mem hlt)
        refine ⟨n, y, true, rfl, .inl ⟨ns[i], ez, by rw [decide_eq_true hz.1, decide_eq_true (show ns[i] ≤ n - 1 by omega)]; rfl⟩, fun _ => aft ns[i] _ ez (fun _ H' l => ⟨l, hlt⟩) (fun hm => ?_), fun h => nomatch h⟩
        obtain ⟨j, hj⟩ := List.mem_iff_getElem?.mp hm
        have hji : j < i := by
          have := (List.getElem?_eq_some_iff.mp hj).1
          rw [List.length_take] at this
          omega
        rw [List.getElem?_take_of_lt hji] at hj
        have := nodup_ix hnd hj (List.getElem?_eq_getElem hlt)
        omega
      · have ei : i = ns.length := by omega
        subst ei
        rcases hb with ⟨e, _⟩ | ⟨y2, r, e, hbad, eb⟩
        · rw [e, List.length_map] at hi
          omega
        · have ey : y = y2 := by
            rw [e, List.getElem?_append_right (by rw [List.length_map]; exact Nat.le_refl _), List.length_map, Nat.sub_self] at hy
            exact (Option.some.inj hy).symm
          subst ey
          rcases hbad with hw | ⟨z, hz, ez⟩
          · exact ⟨n, y, false, rfl, hw.le (l2.trans lT), (fun h => nomatch h), fun _ => q2 eb _ (l2.trans lT)⟩
          · have hzr := hin z hz
            exact ⟨n, y, true, rfl, .inl ⟨z, ez, by rw [decide_eq_true hzr.1, decide_eq_true (show z ≤ n - 1 by omega)]; rfl⟩, fun _ => aft z _ ez (fun hn _ _ => absurd (by rw [List.take_length]; exact hz) hn) (fun _ H' l => q2 eb H' l), fun h => nomatch h⟩
    · rintro σ H2 ⟨v2, v3, rfl, l2, hi⟩
      walk_at "rg"
      refine q1 ?_ H2 l2
      rcases hb with ⟨_, e⟩ | ⟨y2, r, e, _⟩
      · exact e
      · rw [e, List.length_append, List.length_map, List.length_cons] at hi
        omega
/-- what stands in the dict of lies: good up to the place m; what is wrong there -/
inductive LiesOut | good | saying | sign
def LiesB (K : PySem.W.Frag) (H : Hp) (n : Int) (ls rs : List Int) (kvs : List (V × V)) (o : LiesOut) : Prop := ∃ m : Nat, (∀ j k v, j < m → kvs[j]? = some (k, v) → SayB K H n ls rs k true ∧ (v = .non ∨ (v ≠ .non ∧ SgnB H v true))) ∧
  ((m = kvs.length ∧ o = .good) ∨ ∃ k v, kvs[m]? = some (k, v) ∧ ((SayB K H n ls rs k false ∧ o = .saying) ∨ (SayB K H n ls rs k true ∧ v ≠ .non ∧ SgnB H v false ∧ o = .sign)))
theorem LiesB.le {K : PySem.W.Frag} {H H' : Hp} {n : Int} {ls rs : List Int} {kvs : List (V × V)} {o : LiesOut} (h : LiesB K H n ls rs kvs o) (l : Le H H') : LiesB K H' n ls rs kvs o := by
  obtain ⟨m, h1, h2⟩ := h
  refine ⟨m, fun j k v hj e => ⟨(h1 j k v hj e).1.le l, (h1 j k v hj e).2.imp id fun ⟨e, s⟩ => ⟨e, s.le l⟩⟩, h2.imp id fun ⟨k, v, e, h⟩ => ⟨k, v, e, ?_⟩⟩
  rcases h with ⟨h, e⟩ | ⟨h, n, s, e⟩
  · exact .inl ⟨h.le l, e⟩
  · exact .inr ⟨h.le l, n, s.le l, e⟩
def spCheckLies (K : PySem.W.Frag) (P1 P2 C1 C2 : Addr) : Sp := fun vs H Q E => ∃ (n : Int) (la ra d : Addr) (ls rs : List Int) (o : Obj) (kvs : List (V × V)) (out : LiesOut), vs = [.int n, .ref la, .ref ra, .ref d] ∧ SqA K H la (ls.map .int) ∧ H ra = some (.lst (rs.map .int)) ∧ (∀ r ∈ rs, 1 ≤ r) ∧
  H d = some (raw d o) ∧ EntsV o kvs ∧ (d == sysModules) = false ∧ LiesB K H n ls rs kvs out ∧ GxR.TabG H P1 ∧ GxR.TabG H P2 ∧ ∀ H', Le H H' → (out = .good → Q .non H') ∧ (out = .saying → E (.ref C1) none H') ∧ (out = .sign → E (.ref C2) none H')
abbrev s_check_lies : Stmt := top 20
theorem sc_check_lies : FnScope ["hands", "liars", "rounds", "lies", "pair", "sign"] ["hands", "liars", "rounds", "lies"] (defScope s_check_lies) := ⟨rfl, rfl, rfl, by decide +kernel, rfl, by decide +kernel, by decide +kernel⟩
theorem ok_check_lies {f f1 f2 C1 C2 P1 P2 : Addr} {fd fd1 fd2 : FuncData} (F : Fun K "check_lies" "check_lies" s_check_lies f fd) (T : Bt mg) (x_NoSaying : ExX K mg "NoSaying" C1)
    (c_is_saying : Cal P w K mg base CX0 4 "is_saying" ["hands", "liars", "rounds", "value"] (spSaying K P2) f1 fd1) (cx_check_sign : Cal P w K mg base (L2.CX P w) 2 "check_sign" ["value"] (spCheckSgn P1 C2) f2 fd2) : FnOk P w K mg base (L2.CX P w) 5 f fd ["hands", "liars", "rounds", "lies"] (spCheckLies K P1 P2 C1 C2) := by
  refine F.okX sc_check_lies (fun vs H Q E h => ?_) (fun cdv A outer s H vs Q E hr h => ?_)
  · obtain ⟨n, la, ra, d, ls, rs, o, kvs, out, rfl, _⟩ := h
    rfl
  · obtain ⟨n, la, ra, d, ls, rs, o, kvs, out, rfl, hla, hra, hrs, hd, he, hs, hL, hT1, hT2, q⟩ := h
    refine ⟨_, (pss_one (ps_for (passes_of rfl) rfl (pi_nitems (pv 3)) (pg_tupK (K := K) (n := 2) rfl rfl (pgs_cons (pg_name (i := 4) sc_check_lies.nd rfl (Or.inl rfl)) (pgs_cons (pg_name (i := 5) sc_check_lies.nd rfl (Or.inl rfl)) pgs_nil)))
          (pss_cons (ps_if (pt_not (pt_val (pe_own c_is_saying (hr.mono (by omega)) rfl (pa_cons (pv 0) (pa_cons (pv 1) (pa_cons (pv 2) (pa_cons (pv 4) pa_nil)))))))
            (pss_one (ps_raise rfl (takes_of rfl rfl rfl rfl) (pmk_own PySem.F.excBase_ValueError x_NoSaying.q x_NoSaying.g x_NoSaying.k (raises_own x_NoSaying.b x_NoSaying.t) rfl)))
            pss_nil)
          (pss_one (ps_if (pt_cmpR op_notN (pv 5) pe_non (nomark _))
            (pss_one (ps_expr (pe_ownS cx_check_sign (hr.mono (by omega)) rfl (takes_of rfl rfl rfl rfl) (pa_cons (pv 5) pa_nil))))
            pss_nil))))), ?_⟩
    walk_at "rg"
    obtain ⟨m, hgood, hend⟩ := hL
    refine ⟨o, hd, kvs, he, hs, ?_⟩
    refine for_it walk_i (fun i σ H' => ∃ v2 v3 : Option V, σ = [some (.int n), some (.ref la), some (.ref ra), some (.ref d), v2, v3] ∧ Le H H' ∧ i ≤ m) ⟨_, _, rfl, .refl H, Nat.zero_le _⟩ (fun i σ H' _ ⟨_, _, _, l, _⟩ => l.ext hd) ?_ ?_
    · rintro i x σ H2 H3 hi ⟨v2, v3, rfl, l2, him⟩ ⟨T2, k, v, hkv, rfl, hT, rfl⟩
      walk_at "rg"
      have lT : Le H (L2.upd H2 T2 (.tup [k, v])) := l2.trans (.new hT)
      refine ⟨[k, v], .of upd_same, rfl, _, _, rfl, _, _, rfl, rfl, ?_⟩
      by_cases hlt : i < m
      · obtain ⟨g1, g2⟩ := hgood i k v hlt hkv
        refine ⟨n, la, ra, ls, rs, k, true, rfl, hla.le lT, lT.lst hra, hrs, g1.le lT, TabG.le hT2 lT, fun H' l => ⟨true, rfl, iteF ?_⟩⟩
        rcases g2 with rfl | ⟨gn, gs⟩
        · exact iteF ⟨lT.trans l, hlt⟩
        · rw [decide_eq_false gn]
          exact iteT ⟨v, true, rfl, gs.le (lT.trans l), TabG.le hT1 (lT.trans l), fun _ H'' l2 => ⟨(lT.trans l).trans l2, hlt⟩, fun h => nomatch h⟩
      · have ei : i = m := by omega
        subst ei
        rcases hend with ⟨e, _⟩ | ⟨k2, v2, e, hend⟩
        · omega
        · rw [hkv] at e
          cases e
          rcases hend with ⟨g1, eo⟩ | ⟨g1, gn, gs, eo⟩
          · exact ⟨n, la, ra, ls, rs, k, false, rfl, hla.le lT, lT.lst hra, hrs, g1.le lT, TabG.le hT2 lT, fun H' l => ⟨false, rfl, iteT ((q H' (lT.trans l)).2.1 eo)⟩⟩
          · refine ⟨n, la, ra, ls, rs, k, true, rfl, hla.le lT, lT.lst hra, hrs, g1.le lT, TabG.le hT2 lT, fun H' l => ⟨true, rfl, iteF ?_⟩⟩
            rw [decide_eq_false gn]
            exact iteT ⟨v, false, rfl, gs.le (lT.trans l), TabG.le hT1 (lT.trans l), (fun h => nomatch h), fun _ H'' l2 => (q H'' ((lT.trans l).trans l2)).2.2 eo⟩
    · rintro σ H2 ⟨v2, v3, rfl, l2, hi⟩
      walk_at "rg"
      refine (q H2 l2).1 ?_
      rcases hend with ⟨_, e⟩ | ⟨k2, v2, e, _⟩
      · exact e
      · have := (List.getElem?_eq_some_iff.mp e).1
        omega
end

/-! the readings made plain -/
local macro_rules | `(tactic| walk_at "rd") => `(tactic| simp (config := {decide := true}) only [tSeq, tAsg, gName, tC, tVar, tOp, tUn, rI0, rI, rU, tLst, tTup, tNil, tCons, tCB, tTest, tB, tIfS, tRet, tNext, tDrop, tAnd, tOr, tNot, tAndV, tOrV, tNotV, tIf, tSl, tPart, tNoPart, L2.start, List.map, List.length_cons, List.length_nil, List.replicate, List.set_cons_succ, List.set_cons_zero, List.cons_append, List.nil_append, List.append_nil, List.getElem?_cons_succ, List.getElem?_cons_zero, exists_eq_left', Option.some.injEq, V.int.injEq, V.str.injEq, V.bl.injEq, V.ref.injEq, List.cons.injEq, exists_and_left, exists_eq_left, true_and, and_true, and_self, and_assoc, rIxS, rMulS, rEq, rNe, scal_int, scal_str, scal_bl, CDiv, CMul, Nat.zero_le, true_or, or_true, Nat.zero_add, Nat.reduceAdd, Nat.reduceSub, Int.zero_add, tCall, tYes, wipe, reduceIte, if_true, if_false, Bool.false_eq_true, tBM, tBM0, rAppend, gSub, rSetL, tNGet, sNPut, tNGet2, tNNew])
local macro_rules | `(tactic| walk_at "rg") => `(tactic| simp (config := {decide := true}) only [for_eq, lc_eq, lc2_eq, dc1_eq, dc2_eq, tCallS, tMakeS, tMake, tNClear, tAllL, tAllI, tLenSetT, iNItems, iEnumA, tMethE, tMeth, tFld, sFld, sFldAug, rAdd, iStr, iEnum, iPerm, tChain, tLstRg, tRg1, tRg2, iRng1, iRng2, iList, iTup, iNKeys, List.getElem?_nil, List.length_nil, StX.tStar, rCatT, gTup, gCons, gNil, tSeq, tAsg, gName, tC, tVar, tOp, tUn, rI0, rI, rU, tLst, tTup, tNil, tCons, tCB, tTest, tB, tIfS, tRet, tNext, tDrop, tAnd, tOr, tNot, tAndV, tOrV, tNotV, tIf, tSl, tPart, tNoPart, L2.start, List.map, List.length_cons, List.length_nil, List.replicate, List.set_cons_succ, List.set_cons_zero, List.cons_append, List.nil_append, List.append_nil, List.getElem?_cons_succ, List.getElem?_cons_zero, exists_eq_left', Option.some.injEq, V.int.injEq, V.str.injEq, V.bl.injEq, V.ref.injEq, List.cons.injEq, exists_and_left, exists_eq_left, true_and, and_true, and_self, and_assoc, rIxS, rMulS, rEq, rNe, scal_int, scal_str, scal_bl, CDiv, CMul, Nat.zero_le, true_or, or_true, Nat.zero_add, Nat.reduceAdd, Nat.reduceSub, Int.zero_add, tCall, tYes, wipe, reduceIte, if_true, if_false, Bool.false_eq_true, tBM, tBM0, rAppend, gSub, rSetL, tNGet, sNPut, tNGet2, tNNew])
section
variable {P : Program} {w : World} {K : PySem.W.Frag} {mg : Str → Option Value} {base : Heap}
abbrev s_vote : Stmt := top 25
theorem sc_vote : FnScope ["signs", "counts", "sign"] ["signs"] (defScope s_vote) := ⟨rfl, rfl, rfl, by decide +kernel, rfl, by decide +kernel, by decide +kernel⟩
theorem ok_vote {f : Addr} {fd : FuncData} (F : Fun K "vote" "vote" s_vote f fd) (T : Bt mg) : FnOk P w K mg base CX0 1 f fd ["signs"] (spVote K) := by
  refine F.ok sc_vote (fun vs H Q E h => ?_) (fun cdv A outer s H vs Q E hr h => ?_)
  · obtain ⟨a, ss, rfl, _⟩ := h
    rfl
  · obtain ⟨a, ss, rfl, hS, hl, k⟩ := h
    have hu := hr.units
    refine ⟨_, (pss_cons (ps_set (i := 1) sc_vote.nd rfl (Or.inl rfl) pe_nnew)
        (pss_cons (ps_for PassesOwn.never rfl (pi_listK (K := K) rfl (pv 0)) (pg_name (i := 2) sc_vote.nd rfl (Or.inl rfl))
          (pss_one (ps_nputK (P := P) (w := w) rfl rfl hu (pv 1) (pv 2) (pe_op op_add (pe_nget2K (P := P) (w := w) rfl rfl hu (pv 1) (pv 2) pe_int ⟨rfl, rfl, rfl, rfl⟩) pe_int) rfl)))
        (pss_cons (ps_for PassesOwn.never rfl (pi_nkeys (pv 1)) (pg_name (i := 2) sc_vote.nd rfl (Or.inl rfl))
          (pss_one (ps_if (pt_cmpR op_gt (pe_op op_mul pe_int (pe_ngetK (P := P) (w := w) rfl rfl hu (pv 1) (pv 2) (fun _ _ => rfl))) (pe_callB (len_seqK (K := K) rfl) (by rfl) T.b_len bb_len (pa_cons (pv 0) pa_nil)) (nomark _))
            (pss_one (ps_ret (pv 2)))
            pss_nil)))
        (pss_one (ps_ret pe_non))))), ?_⟩
    intro d hd hs
    have l0 : Le H (L2.upd H d (raw d newD)) := .new hd
    refine ⟨_, rfl, a, rfl, ⟨_, l0.sql hS⟩, for_it (n := ss.length) (walk_listN (by simp)) (fun i σ H' => ∃ v kvs, σ = [some (.ref a), some (.ref d), v] ∧ Le H H' ∧ LD P w H' d kvs ∧ Told (ss.take i) kvs)
      ⟨_, [], rfl, l0, ⟨hs, _, upd_same, newD_LD P w⟩, .nil⟩ (fun i σ H' _ ⟨v, kvs, _, l, _⟩ => l.sql hS) ?_ ?_⟩
    · rintro i x σ H1 H2 hi ⟨v, kvs, rfl, l, hD, ht⟩ ⟨rfl, hx⟩
      rw [List.getElem?_map, List.getElem?_eq_getElem hi] at hx
      obtain rfl : sg ss[i] = x := Option.some.inj hx
      refine ⟨_, rfl, d, rfl, hD.isDict, _, rfl, _, .inl ⟨kvs, ss[i], hD, rfl, rfl⟩, ?_⟩
      have e : (valV kvs ss[i]).getD (.int 0) = .int ((ss.take i).count ss[i] : Int) := by
        rw [ht.val]
        split
        · rename_i h0
          rw [h0]
          rfl
        · rfl
      refine ⟨_, _, e, rfl, _, rfl, _, rfl, d, rfl, .inl ⟨kvs, ss[i], hD, rfl, ?_, fun o ho => ?_⟩⟩
      · have := ht.len
        rw [List.length_take] at this
        exact small1000 (by omega)
      · refine ⟨_, _, rfl, l.mut hd, ⟨hs, o, upd_same, ho⟩, ?_⟩
        rw [List.take_succ_eq_append_getElem hi]
        exact ht.step _
    · rintro σ H1 ⟨v, kvs, rfl, l, hD, ht⟩
      rw [List.take_length] at ht
      obtain ⟨_, o, ho, io⟩ := id hD
      refine ⟨_, rfl, d, o, _, rfl, ho, keys_LD io, hs, for_it walk_n (fun i σ H' => ∃ v, σ = [some (.ref a), some (.ref d), v] ∧ Le H H' ∧ LD P w H' d kvs ∧ H' d = some (raw d o) ∧ ∀ j p, j < i → kvs[j]? = some p → ¬ ss.length < 2 * ss.count p.1)
        ⟨_, rfl, l, hD, ho, fun j p hj => by omega⟩ (fun i σ H' _ ⟨v, _, _, _, e, _⟩ => e) ?_ ?_⟩
      · rintro i x σ H1 H2 hi ⟨v, rfl, l, hD, hH, hno⟩ ⟨rfl, hx⟩
        rw [List.length_map] at hi
        rw [List.getElem?_map, List.getElem?_eq_getElem hi] at hx
        obtain rfl : sg kvs[i].1 = x := Option.some.inj hx
        have hv : valV kvs kvs[i].1 = some (.int (ss.count kvs[i].1 : Int)) := by
          have hm : kvs[i].1 ∈ kvs.map (·.1) := List.mem_map.mpr ⟨kvs[i], List.getElem_mem hi, rfl⟩
          have q := ht.val kvs[i].1
          split at q
          · exact absurd hm (valV_not q)
          · exact q
        refine ⟨_, rfl, _, rfl, d, _, rfl, .inl ⟨kvs, _, hD, rfl, hv.symm⟩, _, _, rfl, rfl, .inl ⟨by decide, by decide⟩, _, rfl, a, _, rfl, .inl (l.sql hS), _, _, rfl, rfl, _, rfl, ?_⟩
        refine ite2 (fun hc => ?_) (fun hc => ?_)
        · have hc : ss.length < 2 * ss.count kvs[i].1 := by
            rw [decide_eq_true_eq, List.length_map] at hc
            omega
          refine ⟨_, rfl, ?_⟩
          have q := k _ l
          rw [voteM_of hc] at q
          exact q
        · refine ⟨_, rfl, l, hD, hH, fun j p hj hp hc2 => ?_⟩
          by_cases e : j < i
          · exact hno j p e hp hc2
          · have e : j = i := by omega
            subst e
            rw [List.getElem?_eq_getElem hi] at hp
            cases hp
            refine hc ?_
            rw [decide_eq_true_eq, List.length_map]
            omega
      · rintro σ H1 ⟨v, rfl, l, hD, hH, hno⟩
        have e : voteM ss = none := voteM_none fun x hx hc => by
          have q := ht.val x
          rw [if_neg (Nat.pos_iff_ne_zero.mp (List.count_pos_iff.mpr hx))] at q
          obtain ⟨j, hj⟩ := List.mem_iff_getElem?.mp (valV_mem q)
          have := (List.getElem?_eq_some_iff.mp hj).1
          exact hno j _ (by rw [List.length_map]; exact this) hj hc
        have q := k H1 l
        rw [e] at q
        exact q
abbrev s_settled : Stmt := top 26
theorem sc_settled : FnScope ["hands", "most", "told", "hand", "path", "signs", "other"] ["hands", "most", "told", "hand", "path"] (defScope s_settled) := ⟨rfl, rfl, rfl, by decide +kernel, rfl, by decide +kernel, by decide +kernel⟩
theorem ok_settled {f f1 f2 : Addr} {fd fd1 fd2 : FuncData} (F : Fun K "settled" "settled" s_settled f fd) (T : Bt mg)
    (c_hearers : Cal P w K mg base CX0 1 "hearers" ["hands", "path"] spHear f1 fd1) (c_vote : Cal P w K mg base CX0 1 "vote" ["signs"] (spVote K) f2 fd2)
    (gl : mg "settled" = some (.ref f)) (kp : PySem.W.keepIn K (.ref f) = true) (bd : Binds K fd ["hands", "most", "told", "hand", "path"] []) : ∀ E, FnOk P w K mg base CX0 (2 + E) f fd ["hands", "most", "told", "hand", "path"] (spSettled P w E)
  | 0 => F.ok sc_settled (fun vs H Q E h => spSettled_len h) (fun cdv A outer s H vs Q E hr h => by
      obtain ⟨_, _, d, _, _, _, _, _, h, _⟩ := h
      exact absurd h (Nat.not_lt_zero d))
  | D + 1 => by
    have c_settled : Cal P w K mg base CX0 (2 + D) "settled" ["hands", "most", "told", "hand", "path"] (spSettled P w D) f fd := ⟨ok_settled F T c_hearers c_vote gl kp bd D, gl, kp, bd⟩
    refine F.ok (k := 2 + D) sc_settled (fun vs H Q E h => spSettled_len h) (fun cdv A outer s H vs Q E hr h => ?_)
    obtain ⟨n, m, d, t, b, hand, p, tf, hd, rfl, hn, hb, hp, hh, hl, hT, q⟩ := h
    have hu := hr.units
    refine ⟨_, (pss_cons (ps_if (pt_cmpR op_gt (pe_callB (len_seqK (K := K) rfl) (by rfl) T.b_len bb_len (pa_cons (pv 4) pa_nil)) (pv 1) (nomark _))
          (pss_one (ps_ret (pe_ngetK (P := P) (w := w) rfl rfl hu (pv 2) (pv 4) (fun _ _ => rfl))))
          pss_nil)
        (pss_cons (ps_set (i := 5) sc_settled.nd rfl (Or.inl rfl) (pe_lst (pa_cons (pe_ngetK (P := P) (w := w) rfl rfl hu (pv 2) (pv 4) (fun _ _ => rfl)) pa_nil)))
        (pss_cons (ps_for PassesOwn.never rfl (pi_listK (K := K) rfl (pe_own c_hearers (hr.mono (by omega)) rfl (pa_cons (pv 0) (pa_cons (pv 4) pa_nil)))) (pg_name (i := 6) sc_settled.nd rfl (Or.inl rfl))
          (pss_one (ps_if (pt_cmpR op_ne (pv 6) (pv 3) (nomark _))
            (pss_one (ps_expr (bmK (K := K) rfl (pe_bm PySem.F.plainAttrs_list PySem.F.slot_list_append PySem.F.type_list_append mt_append (pv 5) (pa_cons (pe_own c_settled (hr.mono (by omega)) rfl (pa_cons (pv 0) (pa_cons (pv 1) (pa_cons (pv 2) (pa_cons (pv 3) (pa_cons (pe_tup (pa_starK (K := K) rfl (pv 4) (pa_cons (pv 6) pa_nil))) pa_nil)))))) pa_nil)))))
            pss_nil)))
        (pss_one (ps_ret (pe_own c_vote (hr.mono (by omega)) rfl (pa_cons (pv 5) pa_nil))))))), ?_⟩
    walk_at "rg"
    refine ⟨b, _, rfl, .inr (.of hb), _, rfl, ite2 (fun hc => ?_) (fun hc => ?_)⟩
    · have hc := of_decide_eq_true hc
      rw [List.length_map] at hc
      obtain rfl : d = 0 := by omega
      exact ⟨_, hT.dg hb hp hh (by omega), q _ (.refl _)⟩
    · have hc : ¬ _ := fun z => hc (decide_eq_true z)
      rw [List.length_map] at hc
      obtain ⟨e, rfl⟩ : ∃ e, d = e + 1 := ⟨d - 1, by omega⟩
      refine ⟨_, hT.dg hb hp hh (by omega), fun sl hsl => ⟨n, p, b, rfl, (Le.new hsl).tup hb, hn, fun h1 H1 hh1 l1 hH1 => ?_⟩⟩
      have l0 : Le H (L2.upd H sl (.lst [sg (tf p)])) := .new hsl
      have hne : h1 ≠ sl := fun z => by
        subst z
        rw [upd_same] at hh1
        cases hh1
      refine ⟨h1, rfl, ⟨_, .of hH1⟩, for_it (n := (hear n p).length) (walk_listN (by rw [List.length_map])) (fun i σ H' => ∃ v, σ = [some (.int n), some (.int m), some (.ref t), some (.int hand), some (.ref b), some (.ref sl), v] ∧ Le H H' ∧ H' h1 = some (.lst ((hear n p).map .int)) ∧ H' sl = some (.lst ((tf p :: saidM tf n hand e p ((hear n p).take i)).map sg)))
        ⟨_, rfl, l0.trans l1, hH1, l1.lst upd_same⟩ (fun i σ H' _ ⟨v, _, _, g, _⟩ => .of g) ?_ ?_⟩
      · rintro i x σ H2 H3 hi ⟨v, rfl, l2, g1, g2⟩ ⟨rfl, hx⟩
        rw [List.getElem?_map, List.getElem?_eq_getElem hi] at hx
        obtain rfl : V.int (hear n p)[i] = x := Option.some.inj hx
        have hxm : (hear n p)[i] ∈ hear n p := List.getElem_mem hi
        have htk : (hear n p).take (i + 1) = (hear n p).take i ++ [(hear n p)[i]] := List.take_succ_eq_append_getElem hi
        generalize (hear n p)[i] = x at hxm htk
        walk_at "rg"
        refine ite2 (fun hc => ?_) (fun hc => ?_)
        · have hc : x ≠ hand := fun z => by simp [z] at hc
          refine ⟨.inl ⟨rfl, _, .of g2⟩, _, .inl (.of (l2.tup hb)), ?_, fun b2 hb2 => ?_⟩
          · have h2 := nodup_len n p hp.nd hp.mem
            rw [List.length_append, List.length_map, sizeLine_eq]
            show p.length + 1 ≤ _
            omega
          · refine ⟨n, m, e, t, b2, hand, p ++ [x], tf, by omega, rfl, hn, by rw [upd_same, List.map_append]; rfl, hp.add hxm, ?_, ?_, hT.le (l2.trans (.new hb2)), fun H4 l4 => ?_⟩
            · rw [List.mem_append, List.mem_singleton]
              exact fun z => z.elim hh fun z => hc z.symm
            · rw [List.length_append]
              show p.length + 1 + e = _
              omega
            · have l3 := (Le.new hb2 (o := .tup (p.map .int ++ [.int x]))).trans l4
              refine ⟨_, l3.lst g2, ?_, ?_⟩
              · have h3 := said_length tf n hand e p ((hear n p).take i)
                have h4 := hear_length n p
                rw [List.length_take] at h3
                rw [List.length_map, List.length_cons, sizeLine_eq]
                omega
              · refine ⟨(l2.trans l3).mut hsl, ?_, ?_⟩
                · rw [upd_ne hne]
                  exact l3.lst g1
                · rw [upd_same, htk, said_snoc, if_neg hc]
                  simp
        · have hc : x = hand := by simpa using hc
          refine ⟨l2, g1, ?_⟩
          rw [htk, said_snoc, if_pos hc]
          exact g2
      · rintro σ H2 ⟨v, rfl, l2, g1, g2⟩
        rw [List.take_length] at g2
        walk_at "rg"
        refine ⟨sl, _, rfl, .of g2, ?_, fun H3 l3 => q H3 (l2.trans l3)⟩
        have h3 := said_length tf n hand e p (hear n p)
        have h4 := hear_length n p
        rw [List.length_cons]
        omega
/-! ### the class Table -/
structure MCal (P : Program) (w : World) (K : PySem.W.Frag) (mg : Str → Option Value) (base : Heap) (CX : CXT) (k : Nat) (C : Addr) (m : Str) (ps : List Str) (sp : Sp) (f : Addr) (fd : FuncData) : Prop where
  ok : FnOk P w K mg base CX k f fd ps sp
  me : Meth K C m f
  bd : Binds K fd ps []
structure TabC (K : PySem.W.Frag) (C : Addr) : Prop where
  cl : Cls K C
  nR : NoAttr K C "round"
  nH : NoAttr K C "_hands"
  nM : NoAttr K C "_most"
  nS : NoAttr K C "_sign"
  nL : NoAttr K C "_liars"
  nE : NoAttr K C "_heard"
def tf (r n m : Int) (s : V) (ll lh : Addr) : List (Str × V) := [("round", .int r), ("_hands", .int n), ("_most", .int m), ("_sign", s), ("_liars", .ref ll), ("_heard", .ref lh)]
section
variable {r n m : Int} {s : V} {ll lh : Addr}
theorem tf_made : putF "_heard" (.ref lh) (putF "_liars" (.ref ll) (putF "_sign" s (putF "_most" (.int m) (putF "_hands" (.int n) (putF "round" (.int r) []))))) = tf r n m s ll lh := by
  simp [putF, tf, (by decide +kernel : ¬ ("round" : Str) = "_hands"), (by decide +kernel : ¬ ("round" : Str) = "_most"), (by decide +kernel : ¬ ("round" : Str) = "_sign"), (by decide +kernel : ¬ ("round" : Str) = "_liars"), (by decide +kernel : ¬ ("round" : Str) = "_heard"),
    (by decide +kernel : ¬ ("_hands" : Str) = "_most"), (by decide +kernel : ¬ ("_hands" : Str) = "_sign"), (by decide +kernel : ¬ ("_hands" : Str) = "_liars"), (by decide +kernel : ¬ ("_hands" : Str) = "_heard"),
    (by decide +kernel : ¬ ("_most" : Str) = "_sign"), (by decide +kernel : ¬ ("_most" : Str) = "_liars"), (by decide +kernel : ¬ ("_most" : Str) = "_heard"), (by decide +kernel : ¬ ("_sign" : Str) = "_liars"), (by decide +kernel : ¬ ("_sign" : Str) = "_heard"), (by decide +kernel : ¬ ("_liars" : Str) = "_heard")]
theorem tf_round (r2 : Int) : putF "round" (.int r2) (tf r n m s ll lh) = tf r2 n m s ll lh := by
  unfold tf putF
  rw [if_pos rfl]
theorem tf_at_round : (tf r n m s ll lh).lookup ("round" : Str) = some (.int r) := by unfold tf; rfl
theorem tf_at_hands : (tf r n m s ll lh).lookup ("_hands" : Str) = some (.int n) := by unfold tf; rfl
theorem tf_at_most : (tf r n m s ll lh).lookup ("_most" : Str) = some (.int m) := by unfold tf; rfl
theorem tf_at_sign : (tf r n m s ll lh).lookup ("_sign" : Str) = some s := by unfold tf; rfl
theorem tf_at_liars : (tf r n m s ll lh).lookup ("_liars" : Str) = some (.ref ll) := by unfold tf; rfl
theorem tf_at_heard : (tf r n m s ll lh).lookup ("_heard" : Str) = some (.ref lh) := by unfold tf; rfl
theorem tf_no_over : (tf r n m s ll lh).lookup ("_is_over" : Str) = none := by unfold tf; rfl
theorem tf_no_say : (tf r n m s ll lh).lookup ("_say_along" : Str) = none := by unfold tf; rfl
theorem tf_no_word : (tf r n m s ll lh).lookup ("_honest_word" : Str) = none := by unfold tf; rfl
theorem tf_no_play : (tf r n m s ll lh).lookup ("play" : Str) = none := by unfold tf; rfl
theorem tf_no_told : (tf r n m s ll lh).lookup ("told" : Str) = none := by unfold tf; rfl
theorem tf_no_says : (tf r n m s ll lh).lookup ("says" : Str) = none := by unfold tf; rfl
end
/-- a table stands at x, its dicts at es hold f; what is written at the start at ll, lh -/
structure TabR (P : Program) (w : World) (C : Addr) (H : Hp) (x : Addr) (n m r : Nat) (s : Str) (ls : List Int) (es : List Addr) (f : Nat → List (D × V)) : Prop where
  at_ : ∃ dx ll lh, H x = some (.ins C dx (tf r n m (.str s) ll lh)) ∧ H ll = some (.lst (ls.map .int)) ∧ H lh = some (.lst (es.map .ref))
  len : es.length = n
  nd : es.Nodup
  ear : Ears P w H es f
theorem TabR.le {C : Addr} {H H' : Hp} {x : Addr} {n m r : Nat} {s : Str} {ls : List Int} {es : List Addr} {f : Nat → List (D × V)} (t : TabR P w C H x n m r s ls es f) (l : Le H H') : TabR P w C H' x n m r s ls es f :=
  let ⟨dx, ll, lh, h1, h2, h3⟩ := t.at_
  ⟨⟨dx, ll, lh, l.ins h1, l.lst h2, l.lst h3⟩, t.len, t.nd, t.ear.le l⟩
def spOver (P : Program) (w : World) (C : Addr) : Sp := fun vs H Q _ => ∃ (x : Addr) (n m r : Nat) (s : Str) (ls : List Int) (es : List Addr) (f : Nat → List (D × V)), vs = [.ref x] ∧ TabR P w C H x n m r s ls es f ∧ Q (.bl (decide (m < r))) H
abbrev s_Table__is_over : Stmt := inClass (top 28) 4
theorem sc_Table__is_over : FnScope ["self"] ["self"] (defScope s_Table__is_over) := ⟨rfl, rfl, rfl, by decide +kernel, rfl, by decide +kernel, by decide +kernel⟩
theorem ok_is_over {f C : Addr} {fd : FuncData} (F : Fun K "_is_over" "Table._is_over" s_Table__is_over f fd) (TC : TabC K C) : FnOk P w K mg base CX0 1 f fd ["self"] (spOver P w C) := by
  refine F.ok sc_Table__is_over (fun vs H Q E h => ?_) (fun cdv A outer s H vs Q E hr h => ?_)
  · obtain ⟨x, n, m, r, s, ls, es, f, rfl, _⟩ := h
    rfl
  · obtain ⟨x, n, m, r, s', ls, es, g, rfl, ht, q⟩ := h
    obtain ⟨dx, ll, lh, h1, h2, h3⟩ := ht.at_
    refine ⟨_, (pss_one (ps_ret (pe_cmpR op_gt (pe_fldK (K := K) rfl (pv 0) rfl) (pe_fldK (K := K) rfl (pv 0) rfl) (nomark _)))), ?_⟩
    walk_at "rg"
    refine ⟨C, dx, _, h1, TC.cl, TC.nR, _, tf_at_round, C, dx, _, h1, TC.cl, TC.nM, _, tf_at_most, _, rfl, _, rfl, ?_⟩
    have e : decide ((m : Int) < (r : Int)) = decide (m < r) := decide_eq_decide.mpr Int.ofNat_lt
    rw [e]
    exact q
abbrev s_Table__honest_word : Stmt := inClass (top 28) 6
theorem sc_Table__honest_word : FnScope ["self", "path"] ["self", "path"] (defScope s_Table__honest_word) := ⟨rfl, rfl, rfl, by decide +kernel, rfl, by decide +kernel, by decide +kernel⟩
def spWord (P : Program) (w : World) (C : Addr) : Sp := fun vs H Q _ => ∃ (x b : Addr) (n m r : Nat) (s : Str) (ls : List Int) (es : List Addr) (f : Nat → List (D × V)) (p : List Int) (wd : Option Str), vs = [.ref x, .ref b] ∧ TabR P w C H x n m r s ls es f ∧ H b = some (.tup (p.map .int)) ∧ IsP n p ∧
  (p.length ≤ 1 → wd = some s) ∧ (2 ≤ p.length → valV (f (lastM p).toNat) (pk p.dropLast) = some (sg wd)) ∧ ∀ H', Le H H' → Q (sg wd) H'
theorem ok_honest_word {f C : Addr} {fd : FuncData} (F : Fun K "_honest_word" "Table._honest_word" s_Table__honest_word f fd) (T : Bt mg) (TC : TabC K C) : FnOk P w K mg base CX0 1 f fd ["self", "path"] (spWord P w C) := by
  refine F.ok sc_Table__honest_word (fun vs H Q E h => ?_) (fun cdv A outer s H vs Q E hr h => ?_)
  · obtain ⟨x, b, n, m, r, s, ls, es, f, p, wd, rfl, _⟩ := h
    rfl
  · obtain ⟨x, b, n, m, r, s', ls, es, g, p, wd, rfl, ht, hb, hp, w1, w2, q⟩ := h
    obtain ⟨dx, ll, lh, h1, h2, h3⟩ := ht.at_
    have hu := hr.units
    refine ⟨_, (pss_cons (ps_if (pt_cmpR op_eq (pe_callB (len_seqK (K := K) rfl) (by rfl) T.b_len bb_len (pa_cons (pv 1) pa_nil)) pe_int (nomark _))
          (pss_one (ps_ret (pe_fldK (K := K) rfl (pv 0) rfl)))
          pss_nil)
        (pss_one (ps_ret (pe_ngetK (P := P) (w := w) rfl rfl hu (pe_ix (ix_listK (K := K) rfl) (pe_fldK (K := K) rfl (pv 0) rfl) (pe_ix (ix_tupK (K := K) rfl) (pv 1) (pe_un un_neg pe_int) (fun _ _ => rfl)) (fun _ _ => rfl)) (pe_slice (sl_tupK (K := K) rfl) (pv 1) po_none (po_some (pe_un un_neg pe_int))) (fun _ _ => rfl))))), ?_⟩
    walk_at "rg"
    refine ⟨b, _, rfl, .inr (.of hb), rfl, ?_⟩
    rw [List.length_map]
    by_cases hl : p.length ≤ 1
    · have e1 : p.length = 1 := by
        have := hp.pos
        omega
      rw [decide_eq_true (by rw [e1]; rfl)]
      have q2 := q H (.refl H)
      rw [w1 hl] at q2
      exact iteT ⟨C, dx, _, h1, TC.cl, TC.nS, _, tf_at_sign, q2⟩
    · have e1 : ¬ (V.int (p.length : Nat) = V.int 1) := fun e => by injection e with e; omega
      rw [decide_eq_false e1]
      have hl2 : 2 ≤ p.length := by omega
      obtain ⟨dP, dN, d0, d1⟩ := dropLast_isP hp hl2
      have hlt : (lastM p).toNat < es.length := by rw [ht.len]; omega
      obtain ⟨e, he⟩ : ∃ e, es[(lastM p).toNat]? = some e := ⟨_, List.getElem?_eq_getElem hlt⟩
      refine iteF ⟨C, dx, _, h1, TC.cl, TC.nE, _, tf_at_heard, b, _, _, _, rfl, rfl, .of hb, at_lastM hp.pos, lh, _, _, .ref e, rfl, rfl, .of h3, at_of (j := (lastM p).toNat) (by omega) (by rw [List.getElem?_map, he]; rfl), b, _, rfl, .of hb, ?_, fun c hc2 => ?_⟩
      · rintro ⟨_, h⟩
        have h : HT.sIx (p.map V.int).length (p.map V.int).length (some (-1)) = (p.map V.int).length := h
        rw [sIx_neg1, List.length_map] at h
        omega
      · rw [cut_init]
        have hN := (ht.ear _ e he).le (Le.new hc2 (o := .tup (p.dropLast.map V.int)))
        exact ⟨e, rfl, _, .inr ⟨_, _, c, hN, rfl, pk_at upd_same, pk_depth _, (w2 hl2).symm⟩, q _ (.new hc2)⟩
/-- what is added along p -/
def addM (lie : Lie) (p : List Int) (wd : Option Str) (f : Nat → List (D × V)) (h : Nat) : List (D × V) := if (h : Int) ∈ p then f h else f h ++ [(pk p, sg ((lie p h).getD wd))]
def spSay (P : Program) (w : World) (C : Addr) : Sp := fun vs H Q _ => ∃ (x b d : Addr) (n m r : Nat) (s : Str) (ls : List Int) (es : List Addr) (f : Nat → List (D × V)) (p : List Int) (wd : Option Str) (lkv : List (D × V)) (lie : Lie), vs = [.ref x, .ref b, .ref d] ∧ TabR P w C H x n m r s ls es f ∧ H b = some (.tup (p.map .int)) ∧ IsP n p ∧ n ≤ 10 ∧
  (p.length ≤ 1 → wd = some s) ∧ (2 ≤ p.length → valV (f (lastM p).toNat) (pk p.dropLast) = some (sg wd)) ∧ ND P w H d lkv ∧ d ∉ es ∧ (∀ h, h ∈ hear n p → valV lkv (kk p h) = (lie p h).map sg) ∧ (∀ h : Nat, (h : Int) ∉ p → valV (f h) (pk p) = none ∧ (f h).length ≤ 900) ∧
  ∀ H', LeB (fun a => a ∈ es) H H' → TabR P w C H' x n m r s ls es (addM lie p wd f) → Q .non H'
abbrev s_Table__say_along : Stmt := inClass (top 28) 5
theorem sc_Table__say_along : FnScope ["self", "path", "lies", "honest", "hearer"] ["self", "path", "lies"] (defScope s_Table__say_along) := ⟨rfl, rfl, rfl, by decide +kernel, rfl, by decide +kernel, by decide +kernel⟩
theorem ok_say_along {f f1 f2 C : Addr} {fd fd1 fd2 : FuncData} (F : Fun K "_say_along" "Table._say_along" s_Table__say_along f fd) (T : Bt mg) (TC : TabC K C) (c_hearers : Cal P w K mg base CX0 1 "hearers" ["hands", "path"] spHear f1 fd1)
    (m_honest_word : MCal P w K mg base CX0 1 C "_honest_word" ["self", "path"] (spWord P w C) f2 fd2) : FnOk P w K mg base CX0 2 f fd ["self", "path", "lies"] (spSay P w C) := by
  refine F.ok sc_Table__say_along (fun vs H Q E h => ?_) (fun cdv A outer s H vs Q E hr h => ?_)
  · obtain ⟨x, b, d, n, m, r, s, ls, es, f, p, wd, lkv, lie, rfl, _⟩ := h
    rfl
  · obtain ⟨x, b, d, n, m, r, s', ls, es, g, p, wd, lkv, lie, rfl, ht, hb, hp, hn, w1, w2, hd, hde, hlie, hfree, q⟩ := h
    obtain ⟨dx, ll, lh, h1, h2, h3⟩ := ht.at_
    have hu := hr.units
    refine ⟨_, (pss_cons (ps_set (i := 3) sc_Table__say_along.nd rfl (Or.inl rfl) (pe_meth (pv 0) TC.cl m_honest_word.me m_honest_word.ok (hr.mono (by omega)) m_honest_word.bd .nil pass0 (pa_cons (pv 1) pa_nil)))
        (pss_one (ps_for PassesOwn.never rfl (pi_listK (K := K) rfl (pe_own c_hearers (hr.mono (by omega)) rfl (pa_cons (pe_fldK (K := K) rfl (pv 0) rfl) (pa_cons (pv 1) pa_nil)))) (pg_name (i := 4) sc_Table__say_along.nd rfl (Or.inl rfl))
          (pss_one (ps_nputK (P := P) (w := w) rfl rfl hu (pe_ix (ix_listK (K := K) rfl) (pe_fldK (K := K) rfl (pv 0) rfl) (pv 4) (fun _ _ => rfl)) (pv 1) (pe_nget2K (P := P) (w := w) rfl rfl hu (pv 2) (pe_tup (pa_cons (pv 1) (pa_cons (pv 4) pa_nil))) (pv 3) ⟨rfl, rfl, rfl, rfl⟩) rfl))))), ?_⟩
    walk_at "rg"
    have s300 : ∀ z : Nat, z ≤ 1000 → z < sizeLine := fun z hz => by rw [sizeLine_eq]; omega
    refine ⟨dx, _, h1, tf_no_word, x, b, n, m, r, s', ls, es, g, p, wd, rfl, ht, hb, hp, w1, w2, fun H2 l2 => ⟨C, dx, _, l2.ins h1, TC.cl, TC.nH, _, tf_at_hands, n, p, b, rfl, l2.tup hb, by omega, fun D2 H3 hD2 l3 hzs => ⟨D2, rfl, ⟨_, .of hzs⟩, ?_⟩⟩⟩
    have hndh := hear_nodup n p
    have l0 := l2.trans l3
    refine for_it (n := (hear n p).length) (walk_listN (by rw [List.length_map])) (fun k σ H' => ∃ (v4 : Option V), σ = [some (.ref x), some (.ref b), some (.ref d), some (sg wd), v4] ∧ LeB (fun a => a ∈ es) H H' ∧ H' D2 = some (.lst ((hear n p).map .int)) ∧ H' b = some (.tup (p.map .int)) ∧ ND P w H' d lkv ∧
        TabR P w C H' x n m r s' ls es (fun h => if (h : Int) ∈ (hear n p).take k then g h ++ [(pk p, sg ((lie p h).getD wd))] else g h))
      ⟨_, rfl, .of l0, hzs, l0.tup hb, hd.le l0, by simpa using ht.le l0⟩ (fun k σ H' _ ⟨_, _, _, g, _⟩ => .of g) ?_ ?_
    · rintro k y σ H9 H10 hk ⟨v4, rfl, l9, gD2, hb, hd9, ht9⟩ ⟨rfl, hx⟩
      rw [List.getElem?_map, List.getElem?_eq_getElem hk] at hx
      obtain rfl : V.int (hear n p)[k] = y := Option.some.inj hx
      have hxm : (hear n p)[k] ∈ hear n p := List.getElem_mem hk
      have htk : (hear n p).take (k + 1) = (hear n p).take k ++ [(hear n p)[k]] := List.take_succ_eq_append_getElem hk
      have hxn : (hear n p)[k] ∉ (hear n p).take k := fun hm => by
        obtain ⟨k2, hk2⟩ := List.mem_iff_getElem?.mp hm
        have hkj : k2 < k := by
          have := (List.getElem?_eq_some_iff.mp hk2).1
          rw [List.length_take] at this
          omega
        rw [List.getElem?_take_of_lt hkj] at hk2
        have := nodup_ix hndh hk2 (List.getElem?_eq_getElem hk)
        omega
      generalize (hear n p)[k] = y at hxm htk hxn
      obtain ⟨⟨y0, y1⟩, yp⟩ := mem_hear.mp hxm
      have hylt : y.toNat < es.length := by rw [ht.len]; omega
      obtain ⟨e, he⟩ : ∃ e, es[y.toNat]? = some e := ⟨_, List.getElem?_eq_getElem hylt⟩
      obtain ⟨dx9, ll9, lh9, a1, a2, a3⟩ := ht9.at_
      walk_at "rg"
      refine ⟨hd9.isDict, fun c hc2 => ?_⟩
      have lc : Le H10 (L2.upd H10 c (.tup [.ref b, .int y])) := .new hc2
      have hv := hlie y hxm
      refine ⟨_, .inr ⟨_, _, c, hd9.le lc, rfl, kk_at upd_same (lc.tup hb), kk_depth _ _, hv.symm⟩, ?_⟩
      rw [getD_sg]
      have hN := (ht9.ear _ e he).le lc
      have hN : ND P w _ e (if ((y.toNat : Nat) : Int) ∈ (hear n p).take k then g y.toNat ++ [(pk p, sg ((lie p ((y.toNat : Nat) : Int)).getD wd))] else g y.toNat) := hN
      rw [show ((y.toNat : Nat) : Int) = y by omega, if_neg hxn] at hN
      obtain ⟨hvn, hgl⟩ := hfree y.toNat (by rw [show ((y.toNat : Nat) : Int) = y by omega]; exact yp)
      refine ⟨C, dx9, _, lc.ins a1, TC.cl, TC.nE, _, tf_at_heard, lh9, _, _, .ref e, rfl, rfl, .of (lc.lst a3), at_of (j := y.toNat) (by omega) (by rw [List.getElem?_map, he]; rfl), e, rfl, .inr ⟨_, pk p, b, hN, rfl, pk_at (lc.tup hb), pk_depth p, s300 _ (by omega), fun o ho => ?_⟩⟩
      rw [putK_new hvn] at ho
      have hem := List.mem_of_getElem? he
      obtain ⟨_, o0, hr0, _⟩ := id hN
      have tp : Tups (L2.upd H10 c (.tup [.ref b, .int y])) (L2.upd (L2.upd H10 c (.tup [.ref b, .int y])) e (raw e o)) := tups_upd hr0 (fun _ z => nomatch z)
      have lB : LeB (fun a => a ∈ es) (L2.upd H10 c (.tup [.ref b, .int y])) (L2.upd (L2.upd H10 c (.tup [.ref b, .int y])) e (raw e o)) := (LeB.refl _ _).mut hem (fun ps z => by rw [hr0] at z; cases z)
      have nl : ∀ {a : Addr} {xs : List V}, (L2.upd H10 c (.tup [.ref b, .int y])) a = some (.lst xs) → (L2.upd (L2.upd H10 c (.tup [.ref b, .int y])) e (raw e o)) a = some (.lst xs) := fun {a xs} h => by
        rw [upd_ne (fun z => ?_)]
        · exact h
        · rw [z, hr0] at h
          cases h
      have nd : d ≠ e := fun z => hde (by rw [z]; exact hem)
      have nx : x ≠ e := fun z => by
        have := lc.ins a1
        rw [z, hr0] at this
        cases this
      refine ⟨(l9.trans (.of lc)).trans lB, nl (lc.lst gD2), tp _ _ (lc.tup hb), (hd9.le lc).at tp (fun o' ho' => by rw [upd_ne nd]; exact ho'), ⟨⟨dx9, ll9, lh9, by rw [upd_ne nx]; exact lc.ins a1, nl (lc.lst a2), nl (lc.lst a3)⟩, ht9.len, ht9.nd, ?_⟩⟩
      intro h e' he'
      have q2 := (ht9.ear.le lc).put ht9.nd he ho h e' he'
      have q2 : ND P w _ e' (if h = y.toNat then g y.toNat ++ [(pk p, sg ((lie p y).getD wd))] else if (h : Int) ∈ (hear n p).take k then g h ++ [(pk p, sg ((lie p h).getD wd))] else g h) := q2
      show ND P w _ e' (if (h : Int) ∈ (hear n p).take (k + 1) then g h ++ [(pk p, sg ((lie p h).getD wd))] else g h)
      rw [htk]
      by_cases hhx : h = y.toNat
      · have ehx : (h : Int) = y := by omega
        rw [if_pos hhx] at q2
        rw [if_pos (by rw [ehx]; simp), ehx, hhx]
        exact q2
      · rw [if_neg hhx] at q2
        by_cases hm : (h : Int) ∈ (hear n p).take k
        · rw [if_pos hm] at q2
          rw [if_pos (List.mem_append_left _ hm)]
          exact q2
        · rw [if_neg hm] at q2
          rw [if_neg (fun z => ?_)]
          · exact q2
          · rcases List.mem_append.mp z with z | z
            · exact hm z
            · have := List.mem_singleton.mp z
              omega
    · rintro σ H9 ⟨v4, rfl, l9, gD2, hb, hd9, ht9⟩
      walk_at "rg"
      refine q H9 l9 ⟨ht9.at_, ht9.len, ht9.nd, fun h e he => ?_⟩
      have hN := ht9.ear h e he
      rw [List.take_length] at hN
      have hh : h < es.length := (List.getElem?_eq_some_iff.mp he).1
      rw [ht.len] at hh
      have hN : ND P w H9 e (if (h : Int) ∈ hear n p then g h ++ [(pk p, sg ((lie p h).getD wd))] else g h) := hN
      show ND P w H9 e (if (h : Int) ∈ p then g h else g h ++ [(pk p, sg ((lie p h).getD wd))])
      by_cases hm : (h : Int) ∈ p
      · rw [if_pos hm]
        rw [if_neg (fun z => (mem_hear.mp z).2 hm)] at hN
        exact hN
      · rw [if_neg hm]
        rw [if_pos (mem_hear.mpr ⟨by omega, hm⟩)] at hN
        exact hN
theorem LeB.back {S : Addr → Prop} {H H' : Hp} (p : LeB S H H') {a : Addr} (h : H' a = none) (n : ¬ S a) : H a = none := by
  cases q : H a with
  | none => rfl
  | some o =>
    cases ht : isTbl o with
    | false =>
      rw [p.ob a o n q ht] at h
      cases h
    | true =>
      cases o with
      | tbl ps =>
        obtain ⟨qs, h1, _⟩ := p.tb a ps q
        rw [h1] at h
        cases h
      | _ => cases ht
theorem putF_len (f : Str) (v : V) : ∀ fs : List (Str × V), (putF f v fs).length ≤ fs.length + 1
  | [] => Nat.le_refl _
  | (g, x) :: r => by
    unfold putF
    split
    · exact Nat.le_succ _
    · exact Nat.succ_le_succ (putF_len f v r)
theorem Rd.ins {H : Hp} {a x C dx D dy : Addr} {fs gs : List (Str × V)} {u : HO} (h : Rd H a u) (hx : H x = some (.ins C dx fs)) (n : ∀ C dx fs, u ≠ .ins C dx fs) : Rd (L2.upd H x (.ins D dy gs)) a u := by
  rcases h with h | ⟨o, h⟩
  · exact .inl (by rw [upd_ne (fun z => by rw [z, hx] at h; exact n _ _ _ (Option.some.inj h).symm)]; exact h)
  · exact .inr ⟨o, by rw [upd_ne (fun z => by rw [z, hx] at h; cases h)]; exact h⟩
theorem SqA.ins {H : Hp} {a x C dx D dy : Addr} {fs gs : List (Str × V)} {xs : List V} (h : SqA K H a xs) (hx : H x = some (.ins C dx fs)) : SqA K (L2.upd H x (.ins D dy gs)) a xs := by
  rcases h with (h | h) | (h | h)
  · exact .inl (.inl (Rd.ins h hx (fun _ _ _ z => nomatch z)))
  · exact .inl (.inr h)
  · exact .inr (.inl (Rd.ins h hx (fun _ _ _ z => nomatch z)))
  · exact .inr (.inr h)
theorem tf_inj {r n m : Int} {s : V} {ll lh ll' lh' : Addr} (e : tf r n m s ll lh = tf r n m s ll' lh') : ll = ll' ∧ lh = lh' := by
  have h1 := congrArg (List.lookup ("_liars" : Str)) e
  have h2 := congrArg (List.lookup ("_heard" : Str)) e
  rw [tf_at_liars, tf_at_liars] at h1
  rw [tf_at_heard, tf_at_heard] at h2
  injection h1 with h1
  injection h1 with h1
  injection h2 with h2
  injection h2 with h2
  exact ⟨h1, h2⟩
def spInit (K : PySem.W.Frag) (P : Program) (w : World) (C P1 C0 C1 C2 : Addr) : Sp := fun vs H Q E => ∃ (x dx la : Addr) (n m : Nat) (v3 : V) (xs : List V) (b3 b4 : Bool), vs = [.ref x, .int n, .int m, v3, .ref la] ∧ H x = some (.ins C dx []) ∧ 2 ≤ n ∧ n ≤ 10 ∧ m ≤ 2 ∧ SgnB H v3 b3 ∧ SqA K H la xs ∧ xs.length ≤ 100 ∧ LiarsB K H n xs b4 ∧ GxR.TabG H P1 ∧
  (b3 = false → ∀ H', Le H H' → E (.ref C1) none H') ∧ (b3 = true → b4 = false → ∀ H', Le H H' → E (.ref C2) none H') ∧
  (b3 = true → b4 = true → ∀ H' es s ls, v3 = .str s → IsSign s → xs = ls.map .int → LeB (fun a => a = x) H H' → (∀ e ∈ es, H e = none) → TabR P w C H' x n m 0 s ls es (fun _ => []) → (∀ dx ll lh, H' x = some (.ins C dx (tf ((0 : Nat) : Int) n m (.str s) ll lh)) → H ll = none ∧ H lh = none) → Q .non H')
abbrev s_Table___init__ : Stmt := inClass (top 28) 0
abbrev n_Table___init__ : List Str := ["self", "hands", "most", "sign", "liars", "hand"]
theorem sc_Table___init__ : FnScope ["self", "hands", "most", "sign", "liars", "hand"] ["self", "hands", "most", "sign", "liars"] (defScope s_Table___init__) := ⟨rfl, rfl, rfl, by decide +kernel, rfl, by decide +kernel, by decide +kernel⟩
theorem ok_init {f f1 f2 f3 C P1 C0 C1 C2 : Addr} {fd fd1 fd2 fd3 : FuncData} (F : Fun K "__init__" "Table.__init__" s_Table___init__ f fd) (T : Bt mg) (TC : TabC K C)
    (cx_check_table : Cal P w K mg base (L2.CX P w) 2 "check_table" ["hands", "most"] (spCheckX K C0) f1 fd1) (cx_check_sign : Cal P w K mg base (L2.CX P w) 2 "check_sign" ["value"] (spCheckSgn P1 C1) f2 fd2)
    (cx_check_liars : Cal P w K mg base (L2.CX P w) 4 "check_liars" ["hands", "liars"] (spCheckLiars K C2) f3 fd3) : FnOk P w K mg base (L2.CX P w) 5 f fd ["self", "hands", "most", "sign", "liars"] (spInit K P w C P1 C0 C1 C2) := by
  refine F.okX sc_Table___init__ (fun vs H Q E h => ?_) (fun cdv A outer s H vs Q E hr h => ?_)
  · obtain ⟨x, dx, la, n, m, v3, xs, b3, b4, rfl, _⟩ := h
    rfl
  · obtain ⟨x, dx, la, n, m, v3, xs, b3, b4, rfl, hx, hn, hn2, hm, hs, hla, hxl, hL, hT, q1, q2, q3⟩ := h
    have hu := hr.units
    refine ⟨_, (pss_cons (ps_expr (pe_ownS cx_check_table (hr.mono (by omega)) rfl (takes_of rfl rfl rfl rfl) (pa_cons (pv 1) (pa_cons (pv 2) pa_nil))))
        (pss_cons (ps_expr (pe_ownS cx_check_sign (hr.mono (by omega)) rfl (takes_of rfl rfl rfl rfl) (pa_cons (pv 3) pa_nil)))
        (pss_cons (ps_expr (pe_ownS cx_check_liars (hr.mono (by omega)) rfl (takes_of rfl rfl rfl rfl) (pa_cons (pv 1) (pa_cons (pv 4) pa_nil))))
        (pss_cons (ps_fld (pv 0) pe_int rfl)
        (pss_cons (ps_fld (pv 0) (pv 1) rfl)
        (pss_cons (ps_fld (pv 0) (pv 2) rfl)
        (pss_cons (ps_fld (pv 0) (pv 3) rfl)
        (pss_cons (ps_fld (pv 0) (pe_callTy (list_ofK (K := K) rfl) (by rfl) T.b_list bb_list (pa_cons (pv 4) pa_nil)) rfl)
        (pss_one (ps_fld (pv 0) (pe_lc (own := [("hand", 5)]) (g := gName 5) rfl sc_Table___init__.nd (pi_range1 (by rfl) T.b_range (pa_cons (pv 1) pa_nil)) (blkOk_by (N := n_Table___init__) (sc := defScope s_Table___init__) (own := [("hand", 5)]) (by decide +kernel)) (fun _ _ _ _ _ => (pg_name (i := 5) sc_Table___init__.nd rfl (Or.inl rfl))) (fun _ _ _ _ _ => pts_nil) (fun _ _ _ _ _ => pe_nnew)) rfl)))))))))), ?_⟩
    walk_at "rg"
    refine ⟨_, _, true, true, rfl, .inl ⟨n, rfl, by rw [decide_eq_true (by omega), decide_eq_true (by omega)]; rfl⟩, .inl ⟨m, rfl, by rw [decide_eq_true (by omega), decide_eq_true (by omega)]; rfl⟩, fun _ => ?_, fun z => nomatch z⟩
    refine ⟨v3, b3, rfl, hs, hT, fun e3 H1 l1 => ?_, fun e3 H1 l1 => q1 e3 H1 l1⟩
    refine ⟨n, la, xs, b4, rfl, hla.le l1, hxl, hL.le l1, fun e4 H2 l2 => ?_, fun e4 H2 l2 => q2 e3 e4 H2 (l1.trans l2)⟩
    have l12 := l1.trans l2
    have nx : ∀ ps, H2 x ≠ some (.tbl ps) := fun ps z => by rw [l12.ins hx] at z; cases z
    have lf : ∀ (f : Str) (v : V) (fs : List (Str × V)) (k : Nat), fs.length ≤ k → (putF f v fs).length ≤ k + 1 := fun f v fs k h => Nat.le_trans (putF_len f v fs) (Nat.add_le_add_right h 1)
    have k0 : ([] : List (Str × V)).length ≤ 0 := Nat.le_refl _
    have nins : ∀ (G : Hp) (fs : List (Str × V)) (ps : Array Value), (L2.upd G x (.ins C dx fs)) x ≠ some (.tbl ps) := fun G fs ps z => by rw [upd_same] at z; cases z
    refine ⟨C, dx, [], l12.ins hx, TC.cl, TC.nR, by decide, C, dx, _, upd_same, TC.cl, TC.nH, Nat.lt_of_le_of_lt (lf _ _ _ _ k0) (by decide), C, dx, _, upd_same, TC.cl, TC.nM, Nat.lt_of_le_of_lt (lf _ _ _ _ (lf _ _ _ _ k0)) (by decide), C, dx, _, upd_same, TC.cl, TC.nS, Nat.lt_of_le_of_lt (lf _ _ _ _ (lf _ _ _ _ (lf _ _ _ _ k0))) (by decide), la, xs, rfl, ?_, fun l hl => ?_⟩
    · exact (((((hla.le l12).ins (l12.ins hx)).ins upd_same).ins upd_same).ins upd_same)
    · have lA : LeB (fun a => a = x) H2 (L2.upd (L2.upd (L2.upd (L2.upd H2 x (.ins C dx (putF "round" (.int 0) []))) x (.ins C dx (putF "_hands" (.int n) (putF "round" (.int 0) [])))) x (.ins C dx (putF "_most" (.int m) (putF "_hands" (.int n) (putF "round" (.int 0) []))))) x (.ins C dx (putF "_sign" v3 (putF "_most" (.int m) (putF "_hands" (.int n) (putF "round" (.int 0) [])))))) :=
        LeB.mut (LeB.mut (LeB.mut (LeB.mut (LeB.refl (fun a => a = x) H2) (p := x) rfl nx) (p := x) rfl (nins _ _)) (p := x) rfl (nins _ _)) (p := x) rfl (nins _ _)
      revert hl
      generalize hHA : (L2.upd (L2.upd (L2.upd (L2.upd H2 x (.ins C dx (putF "round" (.int 0) []))) x (.ins C dx (putF "_hands" (.int n) (putF "round" (.int 0) [])))) x (.ins C dx (putF "_most" (.int m) (putF "_hands" (.int n) (putF "round" (.int 0) []))))) x (.ins C dx (putF "_sign" v3 (putF "_most" (.int m) (putF "_hands" (.int n) (putF "round" (.int 0) [])))))) = HA at lA ⊢
      intro hl
      have hxA : HA x = some (.ins C dx (putF "_sign" v3 (putF "_most" (.int m) (putF "_hands" (.int n) (putF "round" (.int 0) []))))) := by rw [← hHA]; exact upd_same
      clear hHA
      have lB : LeB (fun a => a = x) H2 (L2.upd HA l (.lst xs)) := lA.trans (.of (.new hl))
      have hxB := (Le.new hl (o := .lst xs)).ins hxA
      have hlx : l ≠ x := fun z => by rw [z, hxA] at hl; cases hl
      have hl0 : H l = none := ((LeB.of l12).trans lA).back hl hlx
      refine ⟨C, dx, _, hxB, TC.cl, TC.nL, Nat.lt_of_le_of_lt (lf _ _ _ _ (lf _ _ _ _ (lf _ _ _ _ (lf _ _ _ _ k0)))) (by decide), ?_⟩
      have lC : LeB (fun a => a = x) H2 (L2.upd (L2.upd HA l (.lst xs)) x (.ins C dx (putF "_liars" (.ref l) (putF "_sign" v3 (putF "_most" (.int m) (putF "_hands" (.int n) (putF "round" (.int 0) []))))))) := lB.mut rfl (fun ps z => by rw [hxB] at z; cases z)
      have hlC : (L2.upd (L2.upd HA l (.lst xs)) x (.ins C dx (putF "_liars" (.ref l) (putF "_sign" v3 (putF "_most" (.int m) (putF "_hands" (.int n) (putF "round" (.int 0) []))))))) l = some (.lst xs) := by rw [upd_ne hlx]; exact upd_same
      have hxC : (L2.upd (L2.upd HA l (.lst xs)) x (.ins C dx (putF "_liars" (.ref l) (putF "_sign" v3 (putF "_most" (.int m) (putF "_hands" (.int n) (putF "round" (.int 0) []))))))) x = some (.ins C dx (putF "_liars" (.ref l) (putF "_sign" v3 (putF "_most" (.int m) (putF "_hands" (.int n) (putF "round" (.int 0) [])))))) := upd_same
      generalize (L2.upd (L2.upd HA l (.lst xs)) x (.ins C dx (putF "_liars" (.ref l) (putF "_sign" v3 (putF "_most" (.int m) (putF "_hands" (.int n) (putF "round" (.int 0) []))))))) = HB at lC hlC hxC ⊢
      clear hxB lB lA hl hxA
      have s300 : ∀ z : Nat, z ≤ 1000 → z < sizeLine := fun z hz => by rw [sizeLine_eq]; omega
      refine ⟨by omega, by omega, fun E' hE => ?_⟩
      refine lc_it walk_range (fun i H' => Le HB H' ∧ ∃ es : List Addr, H' E' = some (.lst (es.map V.ref)) ∧ es.length = i ∧ es.Nodup ∧ (∀ e ∈ es, HB e = none ∧ e ≠ E') ∧ Ears P w H' es (fun _ => []))
        ⟨.new hE, [], upd_same, rfl, List.nodup_nil, (fun _ h => nomatch h), fun i e h => by simp at h⟩ (fun _ _ _ _ => True.intro) (fun i y H5 H6 hi hI hy => ?_) (fun H5 hI => ?_)
      · obtain ⟨l5, es, hEs, hes, nd, hne, hEar⟩ := hI
        obtain ⟨rfl, rfl⟩ := hy
        refine ⟨rfl, ?_⟩
        walk_at "rg"
        intro e he hs2
        have heE : e ≠ E' := fun z => by
          rw [z, hEs] at he
          cases he
        have heN : e ∉ es := fun hm => by
          obtain ⟨j, hj⟩ := List.mem_iff_getElem?.mp hm
          obtain ⟨_, o, ho, _⟩ := hEar j e hj
          rw [he] at ho
          cases ho
        have l6 : Le H6 (L2.upd H6 e (raw e newD)) := .new he
        have hEs1 : (L2.upd H6 e (raw e newD)) E' = some (.lst (es.map V.ref)) := l6.lst hEs
        refine ⟨_, hEs1, s300 _ (by rw [List.length_map]; omega), (l5.trans l6).mut hE, es ++ [e], by rw [upd_same, List.map_append]; rfl, by rw [List.length_append, hes]; rfl, ?_, fun e' he' => ?_, fun j e' hj => ?_⟩
        · rw [List.nodup_append]
          exact ⟨nd, by simp, fun a ha b hb z => by rw [List.mem_singleton.mp hb] at z; exact heN (z ▸ ha)⟩
        · rcases List.mem_append.mp he' with h | h
          · exact hne e' h
          · rw [List.mem_singleton.mp h]
            exact ⟨l5.back he, heE⟩
        · have tp : Tups (L2.upd H6 e (raw e newD)) (L2.upd (L2.upd H6 e (raw e newD)) E' (.lst (es.map V.ref ++ [.ref e]))) := tups_upd hEs1 (fun _ z => nomatch z)
          by_cases hj2 : j < es.length
          · rw [List.getElem?_append_left hj2] at hj
            have hm := List.mem_of_getElem? hj
            exact ((hEar j e' hj).le l6).at tp fun o ho => by rw [upd_ne (hne e' hm).2]; exact ho
          · rw [List.getElem?_append_right (by omega)] at hj
            have : j - es.length = 0 := by
              have := (List.getElem?_eq_some_iff.mp hj).1
              simp at this
              omega
            rw [this] at hj
            simp at hj
            subst hj
            exact ⟨hs2, newD, by rw [upd_ne heE]; exact upd_same, newD_ND P w _⟩
      · obtain ⟨l5, es, hEs, hes, nd, hne, hEar⟩ := hI
        rw [Int.toNat_natCast] at hes
        have hx5 := l5.ins hxC
        refine ⟨C, dx, _, hx5, TC.cl, TC.nE, Nat.lt_of_le_of_lt (lf _ _ _ _ (lf _ _ _ _ (lf _ _ _ _ (lf _ _ _ _ (lf _ _ _ _ k0))))) (by decide), ?_⟩
        rcases hs with ⟨z, rfl, _, ez⟩ | ⟨_, ez⟩
        · rw [e3] at ez
          have hz := (sgB_iff z).mp ez.symm
          obtain ⟨ls, els⟩ : ∃ ls : List Int, xs = ls.map .int := by
            obtain ⟨ns, _, _, h | ⟨_, _, _, _, h⟩⟩ := hL
            · exact ⟨ns, h.1⟩
            · rw [e4] at h
              cases h
          have hEx : E' ≠ x := fun q => by rw [q, hxC] at hE; cases hE
          have lF : LeB (fun a => a = x) HB (L2.upd H5 x (.ins C dx (putF "_heard" (.ref E') (putF "_liars" (.ref l) (putF "_sign" (.str z) (putF "_most" (.int m) (putF "_hands" (.int n) (putF "round" (.int 0) [])))))))) := (LeB.of l5).mut rfl (fun ps q => by rw [hx5] at q; cases q)
          have exne : ∀ e ∈ es, e ≠ x := fun e he q => by
            have := (hne e he).1
            rw [q, hxC] at this
            cases this
          refine q3 e3 e4 _ es z ls rfl hz els (((LeB.of l12).trans lC).trans lF) (fun e he => ((LeB.of l12).trans lC).back (hne e he).1 (exne e he)) ⟨⟨dx, l, E', by rw [upd_same, tf_made]; rfl, ?_, ?_⟩, hes, nd, fun j e hj => ?_⟩ (fun dx' ll' lh' e => ?_)
          · rw [upd_ne hlx, ← els]
            exact l5.lst hlC
          · rw [upd_ne hEx]
            exact hEs
          · exact (hEar j e hj).at (tups_upd hx5 (fun _ q => nomatch q)) fun o ho => by rw [upd_ne (exne e (List.mem_of_getElem? hj))]; exact ho
          · rw [upd_same, tf_made] at e
            injection e with e
            injection e with _ _ e
            obtain ⟨e1, e2⟩ := tf_inj (r := ((0 : Nat) : Int)) e
            rw [← e1, ← e2]
            exact ⟨hl0, ((LeB.of l12).trans lC).back hE hEx⟩
        · rw [e3] at ez
          cases ez
end

/-! the readings made plain -/
local macro_rules | `(tactic| walk_at "rd") => `(tactic| simp (config := {decide := true}) only [tSeq, tAsg, gName, tC, tVar, tOp, tUn, rI0, rI, rU, tLst, tTup, tNil, tCons, tCB, tTest, tB, tIfS, tRet, tNext, tDrop, tAnd, tOr, tNot, tAndV, tOrV, tNotV, tIf, tSl, tPart, tNoPart, L2.start, List.map, List.length_cons, List.length_nil, List.replicate, List.set_cons_succ, List.set_cons_zero, List.cons_append, List.nil_append, List.append_nil, List.getElem?_cons_succ, List.getElem?_cons_zero, exists_eq_left', Option.some.injEq, V.int.injEq, V.str.injEq, V.bl.injEq, V.ref.injEq, List.cons.injEq, exists_and_left, exists_eq_left, true_and, and_true, and_self, and_assoc, rIxS, rMulS, rEq, rNe, scal_int, scal_str, scal_bl, CDiv, CMul, Nat.zero_le, true_or, or_true, Nat.zero_add, Nat.reduceAdd, Nat.reduceSub, Int.zero_add, tCall, tYes, wipe, reduceIte, if_true, if_false, Bool.false_eq_true, tBM, tBM0, rAppend, gSub, rSetL, tNGet, sNPut, tNGet2, tNNew])
local macro_rules | `(tactic| walk_at "rg") => `(tactic| simp (config := {decide := true}) only [for_eq, lc_eq, lc2_eq, dc1_eq, dc2_eq, tCallS, tMakeS, tMake, tNClear, tAllL, tAllI, tLenSetT, iNItems, iEnumA, tMethE, tMeth, tFld, sFld, sFldAug, rAdd, iStr, iEnum, iPerm, tChain, tLstRg, tRg1, tRg2, iRng1, iRng2, iList, iTup, iNKeys, List.getElem?_nil, List.length_nil, StX.tStar, rCatT, gTup, gCons, gNil, tSeq, tAsg, gName, tC, tVar, tOp, tUn, rI0, rI, rU, tLst, tTup, tNil, tCons, tCB, tTest, tB, tIfS, tRet, tNext, tDrop, tAnd, tOr, tNot, tAndV, tOrV, tNotV, tIf, tSl, tPart, tNoPart, L2.start, List.map, List.length_cons, List.length_nil, List.replicate, List.set_cons_succ, List.set_cons_zero, List.cons_append, List.nil_append, List.append_nil, List.getElem?_cons_succ, List.getElem?_cons_zero, exists_eq_left', Option.some.injEq, V.int.injEq, V.str.injEq, V.bl.injEq, V.ref.injEq, List.cons.injEq, exists_and_left, exists_eq_left, true_and, and_true, and_self, and_assoc, rIxS, rMulS, rEq, rNe, scal_int, scal_str, scal_bl, CDiv, CMul, Nat.zero_le, true_or, or_true, Nat.zero_add, Nat.reduceAdd, Nat.reduceSub, Int.zero_add, tCall, tYes, wipe, reduceIte, if_true, if_false, Bool.false_eq_true, tBM, tBM0, rAppend, gSub, rSetL, tNGet, sNPut, tNGet2, tNNew])
/-! a dict's entries as values -/
theorem ents_ND {P : Program} {w : World} {H : Hp} {o : Obj} {kvs : List (D × V)} (h : IsND P w H o kvs) : ∃ evs : List (V × V), EntsV o evs ∧ evs.length = kvs.length ∧ ∀ (j : Nat) (k v : V), evs[j]? = some (k, v) → ∃ d b, kvs[j]? = some (d, v) ∧ k = .ref b ∧ At H d k ∧ d.depth ≤ 8 := by
  obtain ⟨z, es, ep, xs, h1, h2, h3, h4, r⟩ := h
  have go : ∀ {kvs : List (D × V)} {xs : List (D × Addr × Value)} {l : List DictEntry}, Ent H kvs xs → l = xs.map (entryOfKey (nestedKind P w)) → ∃ evs : List (V × V), Paired (fun (p : V × V) (e : DictEntry) => RelV p.1 e.key ∧ RelV p.2 e.val) evs l ∧ evs.length = kvs.length ∧ ∀ (j : Nat) (k v : V), evs[j]? = some (k, v) → ∃ d b, kvs[j]? = some (d, v) ∧ k = .ref b ∧ At H d k ∧ d.depth ≤ 8 := by
    intro kvs xs
    unfold Ent
    induction kvs generalizing xs with
    | nil =>
      intro l r e
      cases r
      subst e
      exact ⟨[], .nil, rfl, fun j k v h => by simp at h⟩
    | cons p ps ih =>
      intro l r e
      cases r with
      | @cons _ q _ qs h t =>
        subst e
        obtain ⟨evs, p1, p2, p3⟩ := ih t rfl
        refine ⟨(.ref q.2.1, p.2) :: evs, .cons ⟨rfl, h.2.2⟩ p1, by rw [List.length_cons, List.length_cons, p2], fun j k v hj => ?_⟩
        cases j with
        | zero =>
          simp at hj
          obtain ⟨e1, e2⟩ := hj
          subst e1 e2
          exact ⟨p.1, q.2.1, rfl, rfl, h.2.1.1, h.2.1.2⟩
        | succ j => simpa using p3 j k v (by simpa using hj)
  obtain ⟨evs, p1, p2, p3⟩ := go r h3
  exact ⟨evs, ⟨es, ep, h1, h2, p1⟩, p2, p3⟩
theorem EntsV.keys {o : Obj} {evs : List (V × V)} (h : EntsV o evs) : KeysAre o (evs.map (·.1)) := by
  obtain ⟨es, ep, h1, h2, h3⟩ := h
  refine ⟨es, ep, h1, h2, ?_⟩
  have go : ∀ {evs : List (V × V)} {l : List DictEntry}, Paired (fun (p : V × V) (e : DictEntry) => RelV p.1 e.key ∧ RelV p.2 e.val) evs l → Vals (evs.map (·.1)) (l.map (·.key)) := by
    intro evs l r
    induction r with
    | nil => exact .nil
    | cons h t ih => exact .cons h.1 ih
  exact go h3
theorem valV_at {κ : Type} [DecidableEq κ] : ∀ {kvs : List (κ × V)} {j : Nat} {k : κ} {v : V}, (kvs.map (·.1)).Nodup → kvs[j]? = some (k, v) → valV kvs k = some v
  | [], _, _, _, _, h => by simp at h
  | p :: r, 0, k, v, _, h => by
    simp at h
    subst h
    rw [valV_pos rfl]
  | p :: r, j + 1, k, v, nd, h => by
    rw [List.map_cons, List.nodup_cons] at nd
    have h : r[j]? = some (k, v) := by simpa using h
    rw [valV_neg (fun z => nd.1 (by rw [z]; exact List.mem_map.mpr ⟨_, List.mem_of_getElem? h, rfl⟩)), valV_at nd.2 h]
theorem hold_of_ear {P : Program} {w : World} {H : Hp} {e : Addr} {n m : Nat} {lie : Lie} {s : Option Str} {h : Int} (hn : 2 ≤ n) (hr : 0 ≤ h ∧ h < n) (hN : ND P w H e (earM lie s h (upTo n (m + 1)))) : Hold P w H e n m h (toldM lie s h) :=
  ⟨_, hN, fun q hq hh hl => by
    have := hq.short hr hh
    rw [ear_val, if_pos ⟨(mem_upTo hn).mpr ⟨hq, hl, by omega⟩, hh⟩]⟩
theorem upTo_len {n : Nat} (r : Nat) (hn : 2 ≤ n) : ∀ k, (upTo n k).filter (fun p => decide (p.length = r + 1)) = if r < k then pathsM n (r + 1) else []
  | 0 => by simp [upTo]
  | k + 1 => by
    rw [upTo_succ, List.filter_append, upTo_len r hn k]
    have e : (pathsM n (k + 1)).filter (fun p => decide (p.length = r + 1)) = if k = r then pathsM n (r + 1) else [] := by
      by_cases h : k = r
      · subst h
        rw [if_pos rfl]
        exact List.filter_eq_self.mpr fun p hp => decide_eq_true ((mem_paths hn (by omega)).mp hp).2.1
      · rw [if_neg h]
        exact List.filter_eq_nil_iff.mpr fun p hp z => h (by have h1 := ((mem_paths hn (by omega)).mp hp).2.1; have h2 := of_decide_eq_true z; omega)
    rw [e]
    by_cases h1 : r < k
    · rw [if_pos h1, if_neg (by omega), if_pos (by omega), List.append_nil]
    · rw [if_neg h1]
      by_cases h2 : k = r
      · rw [if_pos h2, if_pos (by omega), List.nil_append]
      · rw [if_neg h2, if_neg (by omega), List.append_nil]
theorem LeB.tups {S : Addr → Prop} {H H' : Hp} (p : LeB S H H') (h : ∀ a xs, S a → H a ≠ some (.tup xs)) : Tups H H' := fun a xs e => p.ob a _ (fun s => h a xs s e) e rfl
theorem ND.leB {P : Program} {w : World} {S : Addr → Prop} {H H' : Hp} {a : Addr} {kvs : List (D × V)} (e : ND P w H a kvs) (p : LeB S H H') (h : ∀ a xs, S a → H a ≠ some (.tup xs)) (n : ¬ S a) : ND P w H' a kvs := e.at (p.tups h) fun o ho => p.ob a _ n ho rfl
theorem all_nodup0 : ∀ n : Nat, n < 11 → ∀ m : Nat, m < 3 → (allPM n m).Nodup := by decide +kernel
theorem all_nodup {n m : Nat} (_hn : 2 ≤ n) (hn2 : n ≤ 10) (hm : m ≤ 2) : (allPM n m).Nodup := all_nodup0 n (by omega) m (by omega)
section
variable {P : Program} {w : World} {K : PySem.W.Frag} {mg : Str → Option Value} {base : Heap}
/-! ### Table.play, told, says -/
abbrev TabL (P : Program) (w : World) (C : Addr) (H : Hp) (x : Addr) (n m r : Nat) (s : Str) (ls : List Int) (es : List Addr) (lie : Lie) : Prop := TabR P w C H x n m r s ls es (fun h => earM lie (some s) h (upTo n r))
theorem TabR.noTup {C : Addr} {H : Hp} {x : Addr} {n m r : Nat} {s : Str} {ls : List Int} {es : List Addr} {f : Nat → List (D × V)} (t : TabR P w C H x n m r s ls es f) : ∀ a xs, (a = x ∨ a ∈ es) → H a ≠ some (.tup xs) := by
  intro a xs ha z
  rcases ha with rfl | ha
  · obtain ⟨dx, ll, lh, h1, _⟩ := t.at_
    rw [h1] at z
    cases z
  · obtain ⟨i, hi⟩ := List.mem_iff_getElem?.mp ha
    obtain ⟨_, o, ho, _⟩ := t.ear i a hi
    rw [ho] at z
    cases z
theorem TabR.noLst {C : Addr} {H : Hp} {x : Addr} {n m r : Nat} {s : Str} {ls : List Int} {es : List Addr} {f : Nat → List (D × V)} (t : TabR P w C H x n m r s ls es f) {a : Addr} {xs : List V} (h : H a = some (.lst xs)) : ¬ (a = x ∨ a ∈ es) := by
  rintro (rfl | ha)
  · obtain ⟨dx, ll, lh, h1, _⟩ := t.at_
    rw [h1] at h
    cases h
  · obtain ⟨i, hi⟩ := List.mem_iff_getElem?.mp ha
    obtain ⟨_, o, ho, _⟩ := t.ear i a hi
    rw [ho] at h
    cases h
theorem TabR.noTbl {C : Addr} {H : Hp} {x : Addr} {n m r : Nat} {s : Str} {ls : List Int} {es : List Addr} {f : Nat → List (D × V)} (t : TabR P w C H x n m r s ls es f) : ∀ ps, H x ≠ some (.tbl ps) := fun ps z => by
  obtain ⟨dx, ll, lh, h1, _⟩ := t.at_
  rw [h1] at z
  cases z
def spPlayT (K : PySem.W.Frag) (P : Program) (w : World) (C P1 P2 C0 C1 C2 : Addr) : Sp := fun vs H Q E => ∃ (x d : Addr) (n m r : Nat) (s : Str) (ls : List Int) (es : List Addr) (lie : Lie) (o : Obj) (kvs : List (V × V)) (out : LiesOut), vs = [.ref x, .ref d] ∧ TabL P w C H x n m r s ls es lie ∧ 2 ≤ n ∧ n ≤ 10 ∧ m ≤ 2 ∧ r ≤ m + 1 ∧ GxR.TabG H P1 ∧ GxR.TabG H P2 ∧
  (m < r → E (.ref C0) none H) ∧
  (r ≤ m → H d = some (raw d o) ∧ EntsV o kvs ∧ (d == sysModules) = false ∧ LiesB K H n ls [(r : Int) + 1] kvs out ∧ (∀ H', Le H H' → (out = .saying → E (.ref C1) none H') ∧ (out = .sign → E (.ref C2) none H')) ∧
    (out = .good → ∃ lkv, ND P w H d lkv ∧ d ∉ es ∧ (∀ p h, IsP n p → p.length = r + 1 → h ∈ hear n p → valV lkv (kk p h) = (lie p h).map sg) ∧
      ∀ H', LeB (fun a => a = x ∨ a ∈ es) H H' → TabL P w C H' x n m (r + 1) s ls es lie → Q .non H'))
abbrev s_Table_play : Stmt := inClass (top 28) 1
theorem sc_Table_play : FnScope ["self", "lies", "path"] ["self", "lies"] (defScope s_Table_play) := ⟨rfl, rfl, rfl, by decide +kernel, rfl, by decide +kernel, by decide +kernel⟩
theorem ok_play {f f1 f2 f3 f4 C P1 P2 C0 C1 C2 C3 : Addr} {fd fd1 fd2 fd3 fd4 : FuncData} (F : Fun K "play" "Table.play" s_Table_play f fd) (T : Bt mg) (TC : TabC K C) (x_Over : ExX K mg "Over" C0)
    (m_is_over : MCal P w K mg base CX0 1 C "_is_over" ["self"] (spOver P w C) f1 fd1) (m_say_along : MCal P w K mg base CX0 2 C "_say_along" ["self", "path", "lies"] (spSay P w C) f2 fd2)
    (cx_check_lies : Cal P w K mg base (L2.CX P w) 5 "check_lies" ["hands", "liars", "rounds", "lies"] (spCheckLies K P1 P2 C1 C2) f3 fd3) (cx_paths : Cal P w K mg base (L2.CX P w) 3 "paths" ["hands", "most"] (spPPathsX K C3) f4 fd4) :
    FnOk P w K mg base (L2.CX P w) 6 f fd ["self", "lies"] (spPlayT K P w C P1 P2 C0 C1 C2) := by
  refine F.okX sc_Table_play (fun vs H Q E h => ?_) (fun cdv A outer s H vs Q E hr h => ?_)
  · obtain ⟨x, d, n, m, r, s, ls, es, lie, o, kvs, out, rfl, _⟩ := h
    rfl
  · obtain ⟨x, d, n, m, r, s', ls, es, lie, o, kvs, out, rfl, ht, hn, hn2, hm, hr3, hT1, hT2, q0, q⟩ := h
    obtain ⟨dx, ll, lh, h1, h2, h3⟩ := ht.at_
    have hu := hr.units
    refine ⟨_, (pss_cons (ps_if (pt_val (pe_meth0 (pv 0) TC.cl m_is_over.me m_is_over.ok (hr.mono (by omega)) m_is_over.bd .nil pass0))
          (pss_one (ps_raise rfl (takes_of rfl rfl rfl rfl) (pmk_own PySem.F.excBase_ValueError x_Over.q x_Over.g x_Over.k (raises_own x_Over.b x_Over.t) rfl)))
          pss_nil)
        (pss_cons (ps_expr (pe_ownS cx_check_lies (hr.mono (by omega)) rfl (takes_of rfl rfl rfl rfl) (pa_cons (pe_fldK (K := K) rfl (pv 0) rfl) (pa_cons (pe_fldK (K := K) rfl (pv 0) rfl) (pa_cons (pe_lst (pa_cons (pe_op op_add (pe_fldK (K := K) rfl (pv 0) rfl) pe_int) pa_nil)) (pa_cons (pv 1) pa_nil))))))
        (pss_cons (ps_fldaug (pv 0) pe_int in_add)
        (pss_one (ps_for (passes_of rfl) rfl (pi_listK (K := K) rfl (pe_ownS cx_paths (hr.mono (by omega)) rfl (takes_of rfl rfl rfl rfl) (pa_cons (pe_fldK (K := K) rfl (pv 0) rfl) (pa_cons (pe_fldK (K := K) rfl (pv 0) rfl) pa_nil)))) (pg_name (i := 2) sc_Table_play.nd rfl (Or.inl rfl))
          (pss_one (ps_if (pt_cmpR op_eq (pe_callB (len_seqK (K := K) rfl) (by rfl) T.b_len bb_len (pa_cons (pv 2) pa_nil)) (pe_fldK (K := K) rfl (pv 0) rfl) (nomark _))
            (pss_one (ps_expr (pe_meth (pv 0) TC.cl m_say_along.me m_say_along.ok (hr.mono (by omega)) m_say_along.bd .nil pass0 (pa_cons (pv 2) (pa_cons (pv 1) pa_nil)))))
            pss_nil))))))), ?_⟩
    walk_at "rg"
    refine ⟨dx, _, h1, tf_no_over, x, n, m, r, s', ls, es, _, rfl, ht, _, rfl, ?_⟩
    by_cases hr : m < r
    · rw [decide_eq_true hr]
      exact iteT (q0 hr)
    · rw [decide_eq_false hr]
      obtain ⟨hd, hev, hsy, hL, qbad, qgood⟩ := q (by omega)
      refine iteF ⟨C, dx, _, h1, TC.cl, TC.nH, _, tf_at_hands, C, dx, _, h1, TC.cl, TC.nL, _, tf_at_liars, C, dx, _, h1, TC.cl, TC.nR, _, tf_at_round, _, rfl, fun p0 hp0 => ?_⟩
      have l0 : Le H (L2.upd H p0 (.lst [.int ((r : Int) + 1)])) := .new hp0
      refine ⟨n, ll, p0, d, ls, [(r : Int) + 1], o, kvs, out, rfl, .inl (.of (l0.lst h2)), upd_same, fun z hz => by rw [List.mem_singleton.mp hz]; omega, l0.ext hd, hev, hsy, hL.le l0, TabG.le hT1 l0, TabG.le hT2 l0, fun H1 l1 => ⟨fun eo => ?_, (qbad H1 (l0.trans l1)).1, (qbad H1 (l0.trans l1)).2⟩⟩
      obtain ⟨lkv, hN, hde, hlie, qq⟩ := qgood eo
      have l01 := l0.trans l1
      have ht1 := ht.le l01
      refine ⟨C, dx, _, l01.ins h1, TC.cl, TC.nR, _, tf_at_round, _, rfl, dx, _, l01.ins h1, (by show 6 < 1000; decide), ?_⟩
      rw [tf_round]
      have hxr : (L2.upd H1 x (.ins C dx (tf ((r : Int) + 1) n m (.str s') ll lh))) x = some (.ins C dx (tf ((r : Int) + 1) n m (.str s') ll lh)) := upd_same
      have lR : LeB (fun a => a = x ∨ a ∈ es) H (L2.upd H1 x (.ins C dx (tf ((r : Int) + 1) n m (.str s') ll lh))) := (LeB.of l01).mut (.inl rfl) ht1.noTbl
      have htR : TabR P w C (L2.upd H1 x (.ins C dx (tf ((r : Int) + 1) n m (.str s') ll lh))) x n m (r + 1) s' ls es (fun h => earM lie (some s') h (upTo n r)) := by
        have nll : ∀ {a : Addr} {xs : List V}, H1 a = some (.lst xs) → (L2.upd H1 x (.ins C dx (tf ((r : Int) + 1) n m (.str s') ll lh))) a = some (.lst xs) := fun {a xs} h => by
          rw [upd_ne (fun z => ht1.noLst h (.inl z))]
          exact h
        refine ⟨⟨dx, ll, lh, by rw [show ((r + 1 : Nat) : Int) = (r : Int) + 1 by omega]; exact hxr, nll (l01.lst h2), nll (l01.lst h3)⟩, ht.len, ht.nd, fun i e he => ?_⟩
        have hne : e ≠ x := fun z => by
          obtain ⟨_, o', ho', _⟩ := ht1.ear i e he
          rw [z, l01.ins h1] at ho'
          cases ho'
        exact (ht1.ear i e he).at (tups_upd (l01.ins h1) (fun _ z => nomatch z)) fun o' ho' => by rw [upd_ne hne]; exact ho'
      generalize (L2.upd H1 x (.ins C dx (tf ((r : Int) + 1) n m (.str s') ll lh))) = HR at hxr lR htR ⊢
      refine ⟨C, dx, _, hxr, TC.cl, TC.nH, _, tf_at_hands, C, dx, _, hxr, TC.cl, TC.nM, _, tf_at_most, ?_⟩
      refine ⟨.int n, .int m, rfl, .inl ⟨n, m, rfl, rfl, hn, hn2, hm, fun D H2 ys hD l2 hys hA => ⟨D, rfl, ⟨_, .of hys⟩, ?_⟩⟩⟩
      have hyl := hA.length
      rw [List.length_map] at hyl
      have hall := all_small (n := n) (m := m) hn2 hm
      have hup := upTo_small (n := n) (k := r) hn2 (by omega)
      refine for_it (walk_listN hyl) (fun j σ H' => ∃ v2 : Option V, σ = [some (.ref x), some (.ref d), v2] ∧ LeB (fun a => a = x ∨ a ∈ es) H H' ∧ H' D = some (.lst ys) ∧ Ats H' ((allPM n m).map pk) ys ∧ ND P w H' d lkv ∧
          TabR P w C H' x n m (r + 1) s' ls es (fun h => earM lie (some s') h (upTo n r ++ ((allPM n m).take j).filter fun p => decide (p.length = r + 1))))
        ⟨_, rfl, lR.trans (.of l2), hys, hA, (hN.leB lR ht.noTup (fun z => z.elim (fun z => ?_) hde)).le l2, by simpa using htR.le l2⟩ (fun j σ H' _ ⟨_, _, _, g, _⟩ => .of g) ?_ ?_
      · rw [z, h1] at hd
        cases hd
      · rintro j y σ H5 H6 hj ⟨v2, rfl, l5, gD, gA, gN, gT⟩ ⟨rfl, hx⟩
        obtain ⟨dd, hdd, hAx⟩ := gA.get' hx
        rw [List.getElem?_map] at hdd
        obtain ⟨p, hp, rfl⟩ := Option.map_eq_some_iff.mp hdd
        obtain ⟨b, rfl, hb⟩ := pk_of hAx
        obtain ⟨hpP, hpL, hpN⟩ := (mem_all hn).mp (List.mem_of_getElem? hp)
        obtain ⟨dx5, ll5, lh5, a1, a2, a3⟩ := gT.at_
        have htk : (allPM n m).take (j + 1) = (allPM n m).take j ++ [p] := by
          rw [List.take_add_one, hp]
          rfl
        walk_at "rg"
        refine ⟨b, _, rfl, .inr (.of hb), C, dx5, _, a1, TC.cl, TC.nR, _, tf_at_round, rfl, ?_⟩
        rw [List.length_map]
        by_cases hlen : p.length = r + 1
        · rw [decide_eq_true (by rw [hlen])]
          generalize hL2 : (upTo n r ++ ((allPM n m).take j).filter fun p => decide (p.length = r + 1)) = L at gT
          have eL : (upTo n r ++ ((allPM n m).take (j + 1)).filter fun p => decide (p.length = r + 1)) = L ++ [p] := by
            rw [htk, List.filter_append, ← List.append_assoc, hL2]
            simp [hlen]
          have hLl : L.length ≤ 900 := by
            rw [← hL2, List.length_append]
            have h5 := List.length_filter_le (fun p : List Int => decide (p.length = r + 1)) ((allPM n m).take j)
            rw [List.length_take] at h5
            omega
          have hnL : p ∉ L := fun hmm => by
            rw [← hL2] at hmm
            rcases List.mem_append.mp hmm with h | h
            · have := ((mem_upTo hn).mp h).2.1
              omega
            · obtain ⟨k, hk⟩ := List.mem_iff_getElem?.mp (List.mem_filter.mp h).1
              have hkj : k < j := by
                have := (List.getElem?_eq_some_iff.mp hk).1
                rw [List.length_take] at this
                omega
              rw [List.getElem?_take_of_lt hkj] at hk
              have := nodup_ix (all_nodup hn hn2 hm) hk hp
              omega
          refine iteT ⟨dx5, _, a1, tf_no_say, x, b, d, n, m, r + 1, s', ls, es, _, p, wordM lie (some s') p, lkv, lie, rfl, gT, hb, hpP, hn2, fun hp1 => by unfold wordM; rw [if_pos hp1], fun hp2 => ?_, gN, hde, fun h hh => hlie p h hpP hlen hh, fun h hh => ⟨?_, Nat.le_trans (ear_length _ _ _ _) hLl⟩, fun H7 l7 gT7 => ?_⟩
          · obtain ⟨dP, dN, d0, d1⟩ := dropLast_isP hpP hp2
            rw [ear_val, show (((lastM p).toNat : Nat) : Int) = lastM p by omega, if_pos ⟨by rw [← hL2]; exact List.mem_append_left _ ((mem_upTo hn).mpr ⟨dP, by rw [List.length_dropLast]; omega, by rw [List.length_dropLast]; omega⟩), dN⟩]
            unfold wordM
            rw [if_neg (by omega)]
          · rw [ear_val, if_neg (fun z => hnL z.1)]
          · have nt : ∀ a xs, (a ∈ es) → H6 a ≠ some (.tup xs) := fun a xs ha => gT.noTup a xs (.inr ha)
            refine ⟨l5.trans (l7.wider fun a ha => .inr ha), l7.lst (fun ha => gT.noLst gD (.inr ha)) gD, gA.keep (fun a xs h => l7.tups nt a xs h) _ _, gN.leB l7 nt hde, ?_⟩
            rw [eL]
            refine ⟨gT7.at_, gT7.len, gT7.nd, fun h e he => ?_⟩
            have q2 := gT7.ear h e he
            unfold addM at q2
            show ND P w H7 e (earM lie (some s') (h : Int) (L ++ [p]))
            rw [ear_app]
            by_cases hm2 : (h : Int) ∈ p
            · rw [if_pos hm2] at q2 ⊢
              exact q2
            · rw [if_neg hm2] at q2 ⊢
              rw [told_word]
              exact q2
        · rw [decide_eq_false (fun e => hlen (by injection e with e; omega))]
          refine iteF ⟨l5, gD, gA, gN, ?_⟩
          rw [htk, List.filter_append]
          simpa [hlen] using gT
      · rintro σ H5 ⟨v2, rfl, l5, gD, gA, gN, gT⟩
        walk_at "rg"
        refine qq H5 l5 ?_
        have e : (upTo n r ++ ((allPM n m).take (allPM n m).length).filter fun p => decide (p.length = r + 1)) = upTo n (r + 1) := by
          rw [List.take_length, ← upTo_all hn, upTo_len r hn, if_pos (by omega), ← upTo_succ]
        rw [e] at gT
        exact gT
def spTold (K : PySem.W.Frag) (P : Program) (w : World) (C C1 : Addr) : Sp := fun vs H Q E => ∃ (x : Addr) (v : V) (b : Bool) (n m r : Nat) (s : Str) (ls : List Int) (es : List Addr) (f : Nat → List (D × V)), vs = [.ref x, v] ∧ TabR P w C H x n m r s ls es f ∧ n ≤ 10 ∧ WhB K H v 0 ((n : Int) - 1) b ∧ (∀ h, (f h).length ≤ 1000) ∧
  (b = false → E (.ref C1) none H) ∧ (b = true → ∀ i : Nat, v = .int i → i < n → ∀ D H', H D = none → Le H H' → ND P w H' D (f i) → Q (.ref D) H')
theorem puts_self : ∀ (l kvs : List (D × V)), ((kvs ++ l).map (·.1)).Nodup → puts kvs l = kvs ++ l
  | [], kvs, _ => by simp [puts]
  | e :: l, kvs, h => by
    have h1 : valV kvs e.1 = none := by
      cases q : valV kvs e.1 with
      | none => rfl
      | some v =>
        have hm := valV_mem q
        rw [List.map_append, List.map_cons, List.nodup_append] at h
        exact absurd rfl (h.2.2 e.1 (List.mem_map.mpr ⟨_, hm, rfl⟩) e.1 List.mem_cons_self)
    show puts (putK kvs e.1 e.2) l = _
    rw [putK_new h1, puts_self l (kvs ++ [(e.1, e.2)]) (by simpa using h)]
    simp
abbrev s_Table_told : Stmt := inClass (top 28) 2
abbrev n_Table_told : List Str := ["self", "hand", "heard", "path"]
theorem sc_Table_told : FnScope ["self", "hand", "heard", "path"] ["self", "hand"] (defScope s_Table_told) := ⟨rfl, rfl, rfl, by decide +kernel, rfl, by decide +kernel, by decide +kernel⟩
theorem ok_told {f f1 C C1 : Addr} {fd fd1 : FuncData} (F : Fun K "told" "Table.told" s_Table_told f fd) (T : Bt mg) (TC : TabC K C)
    (cx_check_hand : Cal P w K mg base (L2.CX P w) 3 "check_hand" ["hands", "value"] (spCheckHand K C1) f1 fd1) : FnOk P w K mg base (L2.CX P w) 4 f fd ["self", "hand"] (spTold K P w C C1) := by
  refine F.okX sc_Table_told (fun vs H Q E h => ?_) (fun cdv A outer s H vs Q E hr h => ?_)
  · obtain ⟨x, v, b, n, m, r, s, ls, es, f, rfl, _⟩ := h
    rfl
  · obtain ⟨x, v, b, n, m, r, s', ls, es, g, rfl, ht, hn, hw, hlen, q1, q2⟩ := h
    obtain ⟨dx, ll, lh, h1, h2, h3⟩ := ht.at_
    have hu := hr.units
    refine ⟨_, (pss_cons (ps_expr (pe_ownS cx_check_hand (hr.mono (by omega)) rfl (takes_of rfl rfl rfl rfl) (pa_cons (pe_fldK (K := K) rfl (pv 0) rfl) (pa_cons (pv 1) pa_nil))))
        (pss_cons (ps_set (i := 2) sc_Table_told.nd rfl (Or.inr rfl) (pe_ix (ix_listK (K := K) rfl) (pe_fldK (K := K) rfl (pv 0) rfl) (pv 1) (fun _ _ => rfl)))
        (pss_one (ps_ret (pe_dc1K (P := P) (w := w) (own := [("path", 3)]) rfl rfl hu rfl sc_Table_told.nd (pi_nkeys (pv 2)) (blkOk_by (N := n_Table_told) (sc := defScope s_Table_told) (own := [("path", 3)]) (by decide +kernel)) (fun _ _ _ _ _ => (pg_name (i := 3) sc_Table_told.nd rfl (Or.inl rfl))) (fun _ _ _ _ _ => pts_nil) (fun _ _ _ _ _ => (pv 3)) (fun _ _ _ _ _ => (pe_ngetK (P := P) (w := w) rfl rfl hu (pv 2) (pv 3) (fun _ _ => rfl)))))))), ?_⟩
    walk_at "rg"
    refine ⟨C, dx, _, h1, TC.cl, TC.nH, _, tf_at_hands, n, v, b, rfl, hw, fun eb => ?_, q1⟩
    subst eb
    obtain ⟨i, rfl, hi⟩ : ∃ i : Nat, v = .int i ∧ i < n := by
      rcases hw with ⟨i, e, h⟩ | ⟨_, h⟩ | ⟨_, h⟩
      · have h := h.symm
        rw [Bool.and_eq_true, decide_eq_true_eq, decide_eq_true_eq] at h
        exact ⟨i.toNat, by rw [e]; congr 1; omega, by omega⟩
      · cases h
      · cases h
    obtain ⟨e, he⟩ : ∃ e, es[i]? = some e := ⟨_, List.getElem?_eq_getElem (by rw [ht.len]; exact hi)⟩
    have hN := ht.ear i e he
    obtain ⟨hsy, o, ho, hI⟩ := id hN
    obtain ⟨evs, hev, hel, hent⟩ := ents_ND hI
    have hnd := hN.nodup
    refine ⟨C, dx, _, h1, TC.cl, TC.nE, _, tf_at_heard, lh, _, _, .ref e, rfl, rfl, .of h3, at_of (j := i) (by omega) (by rw [List.getElem?_map, he]; rfl), e, rfl, o, ho, _, hev.keys, hsy, fun D hD hDs => ?_⟩
    refine dc1_data walk_n hD hDs (by rw [List.length_map, hel]; have := hlen i; omega) (fun j => (g i)[j]?.bind some) (fun H' l => l.ext ho) (fun j y H' H'' hj l _ hy Put Nk kP kN => ?_) (fun H' l hN2 => ?_)
    · obtain ⟨rfl, hy⟩ := hy
      refine ⟨rfl, ?_⟩
      walk_at "rg"
      rw [List.getElem?_map] at hy
      obtain ⟨⟨k, z⟩, hkz, rfl⟩ := Option.map_eq_some_iff.mp hy
      obtain ⟨dk, bb, hdk, ek, hAt, hdp⟩ := hent j k z hkz
      have ek : k = .ref bb := ek
      subst ek
      exact ⟨z, .inr ⟨_, dk, bb, hN.le l, rfl, hAt.le l, hdp, (valV_at hnd hdk).symm⟩, kP _ _ dk bb _ (.refl _) (by rw [hdk]; rfl) rfl (hAt.le l) hdp⟩
    · rw [List.length_map, hel, fm_get] at hN2
      have e1 : (g i).filterMap some = g i := by simp
      rw [e1, puts_self _ _ (by simpa using hnd)] at hN2
      exact q2 rfl i rfl hi D H' hD l (by simpa using hN2)
def spSays (K : PySem.W.Frag) (P : Program) (w : World) (C C1 C2 : Addr) : Sp := fun vs H Q E => ∃ (x : Addr) (v : V) (b : Bool) (n m r : Nat) (s : Str) (ls : List Int) (es : List Addr) (lie : Lie), vs = [.ref x, v] ∧ TabL P w C H x n m r s ls es lie ∧ 2 ≤ n ∧ n ≤ 10 ∧ m ≤ 2 ∧ r ≤ m + 1 ∧ WhB K H v 0 ((n : Int) - 1) b ∧
  (b = false → E (.ref C1) none H) ∧ (b = true → r ≤ m → E (.ref C2) none H) ∧ (b = true → r = m + 1 → ∀ i : Nat, v = .int i → i < n → ∀ H', Le H H' → Q (sg (if i = 0 then some s else settM (toldM lie (some s) i) n i m [0])) H')
abbrev s_Table_says : Stmt := inClass (top 28) 3
theorem sc_Table_says : FnScope ["self", "hand"] ["self", "hand"] (defScope s_Table_says) := ⟨rfl, rfl, rfl, by decide +kernel, rfl, by decide +kernel, by decide +kernel⟩
theorem ok_says {f f1 f2 f3 C C1 C2 : Addr} {fd fd1 fd2 fd3 : FuncData} (F : Fun K "says" "Table.says" s_Table_says f fd) (T : Bt mg) (TC : TabC K C) (x_NotOver : ExX K mg "NotOver" C2)
    (cx_check_hand : Cal P w K mg base (L2.CX P w) 3 "check_hand" ["hands", "value"] (spCheckHand K C1) f1 fd1) (m_is_over : MCal P w K mg base CX0 1 C "_is_over" ["self"] (spOver P w C) f2 fd2)
    (c_settled : Cal P w K mg base CX0 5 "settled" ["hands", "most", "told", "hand", "path"] (spSettled P w 3) f3 fd3) : FnOk P w K mg base (L2.CX P w) 6 f fd ["self", "hand"] (spSays K P w C C1 C2) := by
  refine F.okX sc_Table_says (fun vs H Q E h => ?_) (fun cdv A outer s H vs Q E hr h => ?_)
  · obtain ⟨x, v, b, n, m, r, s, ls, es, lie, rfl, _⟩ := h
    rfl
  · obtain ⟨x, v, b, n, m, r, s', ls, es, lie, rfl, ht, hn, hn2, hm, hr3, hw, q1, q2, q3⟩ := h
    obtain ⟨dx, ll, lh, h1, h2, h3⟩ := ht.at_
    have hu := hr.units
    refine ⟨_, (pss_cons (ps_expr (pe_ownS cx_check_hand (hr.mono (by omega)) rfl (takes_of rfl rfl rfl rfl) (pa_cons (pe_fldK (K := K) rfl (pv 0) rfl) (pa_cons (pv 1) pa_nil))))
        (pss_cons (ps_if (pt_not (pt_val (pe_meth0 (pv 0) TC.cl m_is_over.me m_is_over.ok (hr.mono (by omega)) m_is_over.bd .nil pass0)))
          (pss_one (ps_raise rfl (takes_of rfl rfl rfl rfl) (pmk_own PySem.F.excBase_ValueError x_NotOver.q x_NotOver.g x_NotOver.k (raises_own x_NotOver.b x_NotOver.t) rfl)))
          pss_nil)
        (pss_cons (ps_if (pt_cmpR op_eq (pv 1) pe_int (nomark _))
          (pss_one (ps_ret (pe_fldK (K := K) rfl (pv 0) rfl)))
          pss_nil)
        (pss_one (ps_ret (pe_own c_settled (hr.mono (by omega)) rfl (pa_cons (pe_fldK (K := K) rfl (pv 0) rfl) (pa_cons (pe_fldK (K := K) rfl (pv 0) rfl) (pa_cons (pe_ix (ix_listK (K := K) rfl) (pe_fldK (K := K) rfl (pv 0) rfl) (pv 1) (fun _ _ => rfl)) (pa_cons (pv 1) (pa_cons (pe_tup (pa_cons pe_int pa_nil)) pa_nil))))))))))), ?_⟩
    walk_at "rg"
    refine ⟨C, dx, _, h1, TC.cl, TC.nH, _, tf_at_hands, n, v, b, rfl, hw, fun eb => ?_, q1⟩
    subst eb
    obtain ⟨i, rfl, hi⟩ : ∃ i : Nat, v = .int i ∧ i < n := by
      rcases hw with ⟨i, e, h⟩ | ⟨_, h⟩ | ⟨_, h⟩
      · have h := h.symm
        rw [Bool.and_eq_true, decide_eq_true_eq, decide_eq_true_eq] at h
        exact ⟨i.toNat, by rw [e]; congr 1; omega, by omega⟩
      · cases h
      · cases h
    refine ⟨dx, _, h1, tf_no_over, x, n, m, r, s', ls, es, _, rfl, ht, _, rfl, ?_⟩
    by_cases hmr : m < r
    · rw [decide_eq_true hmr]
      refine iteF ⟨rfl, ?_⟩
      have er : r = m + 1 := by omega
      subst er
      by_cases h0 : i = 0
      · subst h0
        rw [decide_eq_true (by rfl)]
        exact iteT ⟨C, dx, _, h1, TC.cl, TC.nS, _, tf_at_sign, q3 rfl rfl 0 rfl hi H (.refl H)⟩
      · rw [decide_eq_false (fun e => h0 (by injection e with e; omega))]
        obtain ⟨e, he⟩ : ∃ e, es[i]? = some e := ⟨_, List.getElem?_eq_getElem (by rw [ht.len]; exact hi)⟩
        have hN := ht.ear i e he
        refine iteF ⟨C, dx, _, h1, TC.cl, TC.nH, _, tf_at_hands, C, dx, _, h1, TC.cl, TC.nM, _, tf_at_most, C, dx, _, h1, TC.cl, TC.nE, _, tf_at_heard, lh, _, _, .ref e, rfl, rfl, .of h3, at_of (j := i) (by omega) (by rw [List.getElem?_map, he]; rfl), fun c hc => ?_⟩
        have lc : Le H (L2.upd H c (.tup [.int 0])) := .new hc
        refine ⟨n, m, m, e, c, i, [0], _, by omega, rfl, by omega, upd_same, .zero (by omega), by rw [List.mem_singleton]; omega, by show 1 + m = m + 1; omega, hold_of_ear hn (by omega) (hN.le lc), fun H5 l5 => ?_⟩
        have q4 := q3 rfl rfl i rfl hi H5 (lc.trans l5)
        rw [if_neg h0] at q4
        exact q4
    · rw [decide_eq_false hmr]
      exact iteT (q2 rfl (by omega))
end

/-! the readings made plain -/
local macro_rules | `(tactic| walk_at "rd") => `(tactic| simp (config := {decide := true}) only [tSeq, tAsg, gName, tC, tVar, tOp, tUn, rI0, rI, rU, tLst, tTup, tNil, tCons, tCB, tTest, tB, tIfS, tRet, tNext, tDrop, tAnd, tOr, tNot, tAndV, tOrV, tNotV, tIf, tSl, tPart, tNoPart, L2.start, List.map, List.length_cons, List.length_nil, List.replicate, List.set_cons_succ, List.set_cons_zero, List.cons_append, List.nil_append, List.append_nil, List.getElem?_cons_succ, List.getElem?_cons_zero, exists_eq_left', Option.some.injEq, V.int.injEq, V.str.injEq, V.bl.injEq, V.ref.injEq, List.cons.injEq, exists_and_left, exists_eq_left, true_and, and_true, and_self, and_assoc, rIxS, rMulS, rEq, rNe, scal_int, scal_str, scal_bl, CDiv, CMul, Nat.zero_le, true_or, or_true, Nat.zero_add, Nat.reduceAdd, Nat.reduceSub, Int.zero_add, tCall, tYes, wipe, reduceIte, if_true, if_false, Bool.false_eq_true, tBM, tBM0, rAppend, gSub, rSetL, tNGet, sNPut, tNGet2, tNNew])
local macro_rules | `(tactic| walk_at "rg") => `(tactic| simp (config := {decide := true}) only [for_eq, lc_eq, lc2_eq, dc1_eq, dc2_eq, tCallS, tMakeS, tMake, tNClear, tAllL, tAllI, tLenSetT, iNItems, iEnumA, tMethE, tMeth, tFld, sFld, sFldAug, rAdd, iStr, iEnum, iPerm, tChain, tLstRg, tRg1, tRg2, iRng1, iRng2, iList, iTup, iNKeys, List.getElem?_nil, List.length_nil, StX.tStar, rCatT, gTup, gCons, gNil, tSeq, tAsg, gName, tC, tVar, tOp, tUn, rI0, rI, rU, tLst, tTup, tNil, tCons, tCB, tTest, tB, tIfS, tRet, tNext, tDrop, tAnd, tOr, tNot, tAndV, tOrV, tNotV, tIf, tSl, tPart, tNoPart, L2.start, List.map, List.length_cons, List.length_nil, List.replicate, List.set_cons_succ, List.set_cons_zero, List.cons_append, List.nil_append, List.append_nil, List.getElem?_cons_succ, List.getElem?_cons_zero, exists_eq_left', Option.some.injEq, V.int.injEq, V.str.injEq, V.bl.injEq, V.ref.injEq, List.cons.injEq, exists_and_left, exists_eq_left, true_and, and_true, and_self, and_assoc, rIxS, rMulS, rEq, rNe, scal_int, scal_str, scal_bl, CDiv, CMul, Nat.zero_le, true_or, or_true, Nat.zero_add, Nat.reduceAdd, Nat.reduceSub, Int.zero_add, tCall, tYes, wipe, reduceIte, if_true, if_false, Bool.false_eq_true, tBM, tBM0, rAppend, gSub, rSetL, tNGet, sNPut, tNGet2, tNNew])
section
variable {P : Program} {w : World} {K : PySem.W.Frag} {mg : Str → Option Value} {base : Heap}
/-! the lies that are drawn -/
/-- one of them -/
def LieK (n m : Nat) (ls : List Int) (e : D × V) : Prop := ∃ p h o, e = (kk p h, sg o) ∧ IsP n p ∧ p.length ≤ m + 1 ∧ p.length ≤ n - 1 ∧ lastM p ∈ ls ∧ h ∈ hear n p ∧ ∀ s, o = some s → IsSign s
def LiesK (n m : Nat) (ls : List Int) (kvs : List (D × V)) : Prop := ∀ e ∈ kvs, LieK n m ls e
theorem LiesK.put {n m : Nat} {ls : List Int} {kvs : List (D × V)} (h : LiesK n m ls kvs) {k : D} {v : V} (g : LieK n m ls (k, v)) : LiesK n m ls (putK kvs k v) := fun e he => by
  rcases mem_putK he with q | q
  · rw [q]; exact g
  · exact h e q
theorem LiesK.small {n m : Nat} {ls : List Int} {kvs : List (D × V)} (h : LiesK n m ls kvs) (hn : 2 ≤ n) (hn2 : n ≤ 10) (hm : m ≤ 2) (nd : (kvs.map (·.1)).Nodup) : kvs.length ≤ 3000 := by
  have h1 := sub_len (ys := ((allPM n m).map fun p => (hear n p).map (kk p)).flatten) nd fun k hk => by
    obtain ⟨e, he, rfl⟩ := List.mem_map.mp hk
    obtain ⟨p, y, o, rfl, hp, hl, hl2, _, hy, _⟩ := h e he
    exact List.mem_flatten.mpr ⟨_, List.mem_map.mpr ⟨p, (mem_all hn).mpr ⟨hp, hl, hl2⟩, rfl⟩, List.mem_map.mpr ⟨y, hy, rfl⟩⟩
  rw [List.length_map] at h1
  have h2 := flat_len (c := 10) (l := (allPM n m).map fun p => (hear n p).map (kk p)) fun x hx => by
    obtain ⟨p, _, rfl⟩ := List.mem_map.mp hx
    rw [List.length_map]
    have := hear_length n p
    omega
  rw [List.length_map] at h2
  have h3 := all_small (n := n) (m := m) hn2 hm
  omega
/-- what they tell -/
def lieOf (kvs : List (D × V)) : Lie := fun p h => match valV kvs (kk p h) with
  | some (.str z) => some (some z)
  | some _ => some none
  | none => none
theorem LiesK.ok {n m : Nat} {ls : List Int} {kvs : List (D × V)} (h : LiesK n m ls kvs) : LieOk kvs (lieOf kvs) := fun p y => by
  unfold lieOf
  cases e : valV kvs (kk p y) with
  | none => rfl
  | some v =>
    obtain ⟨q, z, o, e2, _⟩ := h _ (valV_mem e)
    injection e2 with _ e2
    subst e2
    cases o <;> rfl
def sizeD : D → Nat
  | .tup [.tup ks, _] => ks.length
  | _ => 0
theorem size_kk (p : List Int) (h : Int) : sizeD (kk p h) = p.length := by
  unfold kk pk sizeD
  simp
/-- those of one size -/
def ofSize (k : Nat) (kvs : List (D × V)) : List (D × V) := kvs.filter fun e => decide (sizeD e.1 = k)
theorem ofSize_val (k : Nat) (p : List Int) (h : Int) (hp : p.length = k) : ∀ kvs : List (D × V), valV (ofSize k kvs) (kk p h) = valV kvs (kk p h)
  | [] => rfl
  | e :: r => by
    have ih := ofSize_val k p h hp r
    unfold ofSize at ih ⊢
    by_cases q : e.1 = kk p h
    · rw [List.filter_cons, if_pos (by rw [q, size_kk]; exact decide_eq_true hp), valV_pos q, valV_pos q]
    · by_cases z : sizeD e.1 = k
      · rw [List.filter_cons, if_pos (decide_eq_true z), valV_neg q, valV_neg q, ih]
      · rw [List.filter_cons, if_neg (by simpa using z), valV_neg q, ih]
theorem LiesK.of {n m k : Nat} {ls : List Int} {kvs : List (D × V)} (h : LiesK n m ls kvs) : LiesK n m ls (ofSize k kvs) := fun e he => h e (List.mem_filter.mp he).1
theorem ofSize_size {n m k : Nat} {ls : List Int} {kvs : List (D × V)} (h : LiesK n m ls kvs) {p : List Int} {y : Int} {v : V} (he : (kk p y, v) ∈ ofSize k kvs) : p.length = k := by
  have := of_decide_eq_true (List.mem_filter.mp he).2
  rw [size_kk] at this
  exact this
theorem sayB_good {n : Nat} {ls : List Int} {p : List Int} {h : Int} {rs : List Int} (hp : IsP n p) (hl : (p.length : Int) ∈ rs) (hls : lastM p ∈ ls) (hh : h ∈ hear n p) : sayB n ls rs p h = true := by
  obtain ⟨⟨h0, h1⟩, h2⟩ := mem_hear.mp hh
  unfold sayB pathB
  rw [decide_eq_true hl, decide_eq_true hp.hd, decide_eq_true hp.nd, decide_eq_true hls, decide_eq_true h0, decide_eq_true (show h ≤ (n : Int) - 1 by omega), decide_eq_true h2]
  have e : (p.all fun v => decide (0 ≤ v) && decide (v ≤ (n : Int) - 1)) = true := List.all_eq_true.mpr fun v hv => by
    have := hp.mem v hv
    rw [decide_eq_true this.1, decide_eq_true (show v ≤ (n : Int) - 1 by omega)]
    rfl
  rw [e]
  rfl
/-- good lies are let pass -/
theorem lies_good {K : PySem.W.Frag} {P : Program} {w : World} {H : Hp} {n m k : Nat} {ls rs : List Int} {kvs : List (D × V)} {evs : List (V × V)} (hm : m ≤ 2) (hK : LiesK n m ls kvs) (hsz : ∀ p h v, (kk p h, v) ∈ kvs → (p.length : Int) ∈ rs)
    (hent : ∀ (j : Nat) (k v : V), evs[j]? = some (k, v) → ∃ d b, kvs[j]? = some (d, v) ∧ k = .ref b ∧ At H d k ∧ d.depth ≤ 8) : LiesB K H n ls rs evs .good := by
  refine ⟨evs.length, fun j k v hj e => ?_, .inl ⟨rfl, rfl⟩⟩
  obtain ⟨d, b, hd, ek, hAt, _⟩ := hent j k v e
  obtain ⟨p, h, o, e2, hp, hl, hl2, hls, hh, hs⟩ := hK _ (List.mem_of_getElem? hd)
  injection e2 with e2 e3
  subst e2 e3
  obtain ⟨c, b2, e4, hc, hb⟩ := kk_of hAt
  have hpn : p.length ≤ 1000 := by
    have := nodup_len n p hp.nd hp.mem
    have := hl
    omega
  refine ⟨.inr ⟨c, _, e4, hc, .inr ⟨_, _, rfl, .inr ⟨b2, p, rfl, hb, hpn, .inl ⟨h, rfl, (sayB_good hp (hsz p h _ (List.mem_of_getElem? hd)) hls hh).symm⟩⟩⟩⟩, ?_⟩
  · cases o with
    | none => exact .inl rfl
    | some s => exact .inr ⟨(fun q => nomatch q), SgnB.good (hs s rfl)⟩
def cell (ns : List Int) (k : Int) : Int := ns.getD k.toNat 0
def spCell (K : PySem.W.Frag) : Sp := fun vs H Q _ => ∃ (a : Addr) (ns : List Int) (k : Int), vs = [.ref a, .int k] ∧ SqL K H a (ns.map V.int) ∧ ns.length ≤ 63 ∧ 0 ≤ k ∧ Q (.int (cell ns k)) H
abbrev s_law_cell_at : Stmt := top 30
theorem sc_law_cell_at : FnScope ["_law_script", "_law_k"] ["_law_script", "_law_k"] (defScope s_law_cell_at) := ⟨rfl, rfl, rfl, by decide +kernel, rfl, by decide +kernel, by decide +kernel⟩
theorem ok_law_cell_at {f : Addr} {fd : FuncData} (F : Fun K "_law_cell_at" "_law_cell_at" s_law_cell_at f fd) (T : Bt mg) : FnOk P w K mg base CX0 1 f fd ["_law_script", "_law_k"] (spCell K) := by
  refine F.ok sc_law_cell_at (fun vs H Q E h => ?_) (fun cdv A outer s H vs Q E hr h => ?_)
  · obtain ⟨a, ns, k, rfl, _⟩ := h
    rfl
  · obtain ⟨a, ns, k, rfl, hS, hl, h0, q⟩ := h
    refine ⟨_, (pss_cons (ps_if (pt_cmpR op_lt (pv 1) (pe_callB (len_seqK (K := K) rfl) (by rfl) T.b_len bb_len (pa_cons (pv 0) pa_nil)) (nomark _))
          (pss_one (ps_ret (pe_ix (ix_listK (K := K) rfl) (pv 0) (pv 1) (fun _ _ => rfl))))
          pss_nil)
        (pss_one (ps_ret pe_int))), ?_⟩
    refine ⟨_, rfl, _, rfl, a, _, rfl, .inl hS, _, _, rfl, rfl, _, rfl, ite2 (fun hc => ?_) (fun hc => ?_)⟩
    · rw [decide_eq_true_eq, List.length_map] at hc
      have e : cell ns k = ns[k.toNat]'(by omega) := by
        unfold cell
        rw [List.getD_eq_getElem?_getD, List.getElem?_eq_getElem (by omega)]
        rfl
      refine ⟨_, rfl, _, rfl, a, _, k, .int (cell ns k), rfl, rfl, hS, at_of (j := k.toNat) (by omega) ?_, q⟩
      rw [List.getElem?_map, List.getElem?_eq_getElem (by omega), e]
      rfl
    · rw [decide_eq_true_eq, List.length_map] at hc
      have e : cell ns k = 0 := by
        unfold cell
        rw [List.getD_eq_getElem?_getD, List.getElem?_eq_none (by omega)]
        rfl
      rw [e] at q
      exact q
def spSigns : Sp := fun vs H Q _ => ∃ (c : Int), vs = [.int c] ∧ ∀ p H' (ss : List Str), H p = none → Le H H' → H' p = some (.lst (ss.map .str)) → ss.length = 4 → (∀ s ∈ ss, IsSign s) → Q (.ref p) H'
abbrev ABC : Str := "abcdefghijklmnopqrstuvwxyz"
theorem abc_len : ABC.length ≤ sizeLine := by decide +kernel
theorem abc_at : ∀ i : Nat, i < 26 → ABC.cps.toList[i]? = some (97 + i) := by decide +kernel
theorem abc_ix {i : Int} (h0 : 0 ≤ i) (h1 : i < 26) : ∃ c, atI ABC.cps.toList i = some c ∧ 97 ≤ c ∧ c ≤ 122 := by
  obtain ⟨n, rfl⟩ := Int.eq_ofNat_of_zero_le h0
  exact ⟨97 + n, atI_nat (abc_at n (by omega)), by omega, by omega⟩
theorem repS_mem {c : Nat} {n : Int} {x : Nat} (h : x ∈ (repS ⟨#[c]⟩ n).cps.toList) : x = c := by
  have h : x ∈ ((List.replicate n.toNat [c]).flatten).toArray.toList := h
  rw [List.toList_toArray] at h
  obtain ⟨l, hl, hx⟩ := List.mem_flatten.mp h
  rw [(List.mem_replicate.mp hl).2] at hx
  exact List.mem_singleton.mp hx
theorem one_len (c : Nat) : (⟨#[c]⟩ : Str).length = 1 := rfl
theorem app_lenS (x y : Str) : (x ++ y).length = x.length + y.length := by
  show (x.cps ++ y.cps).size = _
  rw [Array.size_append]
  rfl
theorem app_mem {x y : Str} {c : Nat} (h : c ∈ (x ++ y).cps.toList) : c ∈ x.cps.toList ∨ c ∈ y.cps.toList := by
  have h : c ∈ (x.cps ++ y.cps).toList := h
  rw [Array.toList_append] at h
  exact List.mem_append.mp h
abbrev s_law_signs : Stmt := top 32
theorem sc_law_signs : FnScope ["_law_cell", "_law_letters", "_law_size", "_law_found", "_law_k", "_law_sign", "_law_place", "_law_ahead", "_law_behind"] ["_law_cell"] (defScope s_law_signs) := ⟨rfl, rfl, rfl, by decide +kernel, rfl, by decide +kernel, by decide +kernel⟩
theorem ok_law_signs {f : Addr} {fd : FuncData} (F : Fun K "_law_signs" "_law_signs" s_law_signs f fd) (T : Bt mg) : FnOk P w K mg base CX0 1 f fd ["_law_cell"] spSigns := by
  refine F.ok sc_law_signs (fun vs H Q E h => ?_) (fun cdv A outer s H vs Q E hr h => ?_)
  · obtain ⟨c, rfl, _⟩ := h
    rfl
  · obtain ⟨c, rfl, q⟩ := h
    refine ⟨_, (pss_cons (ps_set (i := 1) sc_law_signs.nd rfl (Or.inl rfl) pe_str)
        (pss_cons (ps_set (i := 2) sc_law_signs.nd rfl (Or.inl rfl) (pe_op op_add pe_int (pe_op op_mod (pe_op op_fdiv (pv 0) pe_int) pe_int)))
        (pss_cons (ps_set (i := 3) sc_law_signs.nd rfl (Or.inl rfl) (pe_lst pa_nil))
        (pss_cons (ps_for PassesOwn.never rfl (pi_range1 (by rfl) T.b_range (pa_cons pe_int pa_nil)) (pg_name (i := 4) sc_law_signs.nd rfl (Or.inl rfl))
          (pss_cons (ps_set (i := 5) sc_law_signs.nd rfl (Or.inl rfl) (pe_ix ix_str (pv 1) (pe_op op_mod (pe_op op_add (pe_op op_fdiv (pv 0) pe_int) (pe_op op_mul pe_int (pv 4))) pe_int) (fun _ _ => rfl)))
          (pss_one (ps_if (pt_cmpR op_eq (pe_op op_mod (pv 0) pe_int) pe_int (nomark _))
            (pss_one (ps_expr (bmK (K := K) rfl (pe_bm PySem.F.plainAttrs_list PySem.F.slot_list_append PySem.F.type_list_append mt_append (pv 3) (pa_cons (pe_op op_mulS (pe_ix ix_str (pv 1) (pe_op op_mod (pe_op op_fdiv (pv 0) pe_int) pe_int) (fun _ _ => rfl)) (pe_op op_add pe_int (pe_op op_mul pe_int (pv 4)))) pa_nil)))))
            (pss_cons (ps_set (i := 6) sc_law_signs.nd rfl (Or.inl rfl) (pe_op op_mod (pe_op op_fdiv (pv 0) pe_int) (pv 2)))
              (pss_cons (ps_set (i := 7) sc_law_signs.nd rfl (Or.inl rfl) (pe_op op_mulS (pe_ix ix_str (pv 1) (pv 2) (fun _ _ => rfl)) (pv 6)))
              (pss_cons (ps_set (i := 8) sc_law_signs.nd rfl (Or.inl rfl) (pe_op op_mulS (pe_ix ix_str (pv 1) (pe_op op_add (pv 2) (pe_op op_mod (pv 0) pe_int)) (fun _ _ => rfl)) (pe_op op_sub (pe_op op_sub (pv 2) pe_int) (pv 6))))
              (pss_one (ps_expr (bmK (K := K) rfl (pe_bm PySem.F.plainAttrs_list PySem.F.slot_list_append PySem.F.type_list_append mt_append (pv 3) (pa_cons (pe_op op_add_str (pe_op op_add_str (pv 7) (pv 5)) (pv 8)) pa_nil))))))))))))
        (pss_one (ps_ret (pv 3))))))), ?_⟩
    walk_at "rd"
    intro p hp
    refine ⟨4, rfl, by decide, by decide, for_range (n := 4) (fun i σ H' => ∃ v5 v6 v7 v8 v9 ss, σ = [some (.int c), some (.str ABC), some (.int (1 + c / 3 % 8)), some (.ref p), v5, v6, v7, v8, v9] ∧ Le H H' ∧ H' p = some (.lst (ss.map .str)) ∧ ss.length = i ∧ ∀ s ∈ ss, IsSign s)
      ⟨none, none, none, none, none, [], rfl, .new hp, upd_same, rfl, fun s hs => nomatch hs⟩ ?_ ?_⟩
    · rintro i σ H1 hi ⟨v5, v6, v7, v8, v9, ss, rfl, l, hl, hss, hg⟩
      walk_at "rd"
      have fin : ∀ (z : Str), IsSign z → Le H (L2.upd H1 p (.lst (ss.map V.str ++ [.str z]))) ∧ ∃ ss' : List Str, (L2.upd H1 p (.lst (ss.map V.str ++ [.str z]))) p = some (.lst (ss'.map .str)) ∧ ss'.length = i + 1 ∧ ∀ s ∈ ss', IsSign s := fun z hz =>
        ⟨l.mut hp, ss ++ [z], by rw [upd_same, List.map_append]; rfl, by rw [List.length_append, hss]; rfl, fun s hs => by
          rcases List.mem_append.mp hs with h | h
          · exact hg s h
          · rw [List.mem_singleton.mp h]; exact hz⟩
      obtain ⟨d, hd, d1, d2⟩ := abc_ix (i := (c / 24 + 7 * (i : Int)) % 26) (by omega) (by omega)
      have small : (ss.map V.str).length < sizeLine := by
        rw [List.length_map]
        exact small1000 (by omega)
      refine ⟨d, hd, ite2 (fun hc => ?_) (fun hc => ?_)⟩
      · obtain ⟨d', hd', e1, e2⟩ := abc_ix (i := c / 24 % 26) (by omega) (by omega)
        refine ⟨.inl ⟨rfl, _, .of hl⟩, d', hd', by omega, by omega, by rw [one_len]; decide, _, hl, small, fin _ ⟨?_, ?_, fun x hx => ?_⟩⟩
        · rw [repS_len, one_len]
          omega
        · rw [repS_len, one_len]
          omega
        · rw [repS_mem hx]
          omega
      · obtain ⟨a1, ha1, b1, b2⟩ := abc_ix (i := 1 + c / 3 % 8) (by omega) (by omega)
        obtain ⟨a2, ha2, b3, b4⟩ := abc_ix (i := 1 + c / 3 % 8 + c % 3) (by omega) (by omega)
        have m0 : 0 ≤ c / 5 % (1 + c / 3 % 8) := Int.emod_nonneg _ (by omega)
        have m1 : c / 5 % (1 + c / 3 % 8) < 1 + c / 3 % 8 := Int.emod_lt_of_pos _ (by omega)
        generalize hm : c / 5 % (1 + c / 3 % 8) = m at m0 m1 ⊢
        have len : (repS ⟨#[a1]⟩ m ++ ⟨#[d]⟩ ++ repS ⟨#[a2]⟩ (1 + c / 3 % 8 - 1 - m)).length = m.toNat + 1 + (1 + c / 3 % 8 - 1 - m).toNat := by
          rw [app_lenS, app_lenS, repS_len, repS_len, one_len, one_len, one_len]
          omega
        refine ⟨by omega, a1, ha1, m0, by omega, by rw [one_len]; decide, a2, ha2, by omega, by omega, by rw [one_len]; decide, .inl ⟨rfl, _, .of hl⟩, ?_, ?_, _, hl, small, fin _ ⟨?_, ?_, fun x hx => ?_⟩⟩
        · rw [repS_len, one_len, one_len, sizeLine_eq]
          omega
        · rw [app_lenS, repS_len, repS_len, one_len, one_len, one_len, sizeLine_eq]
          omega
        · rw [len]
          omega
        · rw [len]
          omega
        · rcases app_mem hx with h | h
          · rcases app_mem h with h | h
            · rw [repS_mem h]; omega
            · have h : x ∈ [d] := h
              rw [List.mem_singleton.mp h]; omega
          · rw [repS_mem h]; omega
    · rintro σ H1 ⟨v5, v6, v7, v8, v9, ss, rfl, l, hl, hss, hg⟩
      exact ⟨_, rfl, q p H1 ss hp l hl hss hg⟩
/-- so many hands, so many rounds -/
structure TabOk (n m : Nat) : Prop where
  n2 : 2 ≤ n
  n10 : n ≤ 10
  m2 : m ≤ 2
  n8 : m = 2 → n ≤ 8
def spTable : Sp := fun vs H Q _ => ∃ (c : Int), vs = [.int c] ∧ ∀ p H' (n m : Nat), Le H H' → H' p = some (.tup [.int n, .int m]) → TabOk n m → Q (.ref p) H'
abbrev s_law_table : Stmt := top 33
theorem sc_law_table : FnScope ["_law_cell", "_law_most"] ["_law_cell"] (defScope s_law_table) := ⟨rfl, rfl, rfl, by decide +kernel, rfl, by decide +kernel, by decide +kernel⟩
theorem tab6 : ∀ i : Nat, i < 6 → ∃ m : Nat, ([V.int 1, .int 2, .int 0, .int 1, .int 2, .int 2] : List V)[i]? = some (.int m) ∧ m ≤ 2 := by
  intro i hi
  match i, hi with
  | 0, _ => exact ⟨1, rfl, by decide⟩
  | 1, _ => exact ⟨2, rfl, by decide⟩
  | 2, _ => exact ⟨0, rfl, by decide⟩
  | 3, _ => exact ⟨1, rfl, by decide⟩
  | 4, _ => exact ⟨2, rfl, by decide⟩
  | 5, _ => exact ⟨2, rfl, by decide⟩
theorem tab3 : ∀ i : Nat, i ≤ 2 → ∃ k : Int, ([V.int 9, .int 9, .int 7] : List V)[i]? = some (.int k) ∧ 7 ≤ k ∧ k ≤ 9 ∧ (i = 2 → k = 7) := by
  intro i hi
  match i, hi with
  | 0, _ => exact ⟨9, rfl, by decide, by decide, by decide⟩
  | 1, _ => exact ⟨9, rfl, by decide, by decide, by decide⟩
  | 2, _ => exact ⟨7, rfl, by decide, by decide, by decide⟩
theorem ok_law_table {f : Addr} {fd : FuncData} (F : Fun K "_law_table" "_law_table" s_law_table f fd) (T : Bt mg) : FnOk P w K mg base CX0 1 f fd ["_law_cell"] spTable := by
  refine F.ok sc_law_table (fun vs H Q E h => ?_) (fun cdv A outer s H vs Q E hr h => ?_)
  · obtain ⟨c, rfl, _⟩ := h
    rfl
  · obtain ⟨c, rfl, q⟩ := h
    refine ⟨_, (pss_cons (ps_set (i := 1) sc_law_table.nd rfl (Or.inl rfl) (pe_ix (ix_listK (K := K) rfl) (pe_lst (pa_cons pe_int (pa_cons pe_int (pa_cons pe_int (pa_cons pe_int (pa_cons pe_int (pa_cons pe_int pa_nil))))))) (pe_op op_mod (pv 0) pe_int) (fun _ _ => rfl)))
        (pss_one (ps_ret (pe_tup (pa_cons (pe_op op_add pe_int (pe_op op_mod (pe_op op_fdiv (pv 0) pe_int) (pe_ix (ix_listK (K := K) rfl) (pe_lst (pa_cons pe_int (pa_cons pe_int (pa_cons pe_int pa_nil)))) (pv 1) (fun _ _ => rfl)))) (pa_cons (pv 1) pa_nil)))))), ?_⟩
    walk_at "rd"
    intro p1 hp1
    have c6 : 0 ≤ c % 6 ∧ c % 6 < 6 := by omega
    obtain ⟨m, hm, m2⟩ := tab6 (c % 6).toNat (by omega)
    refine ⟨p1, _, _, _, rfl, rfl, .of upd_same, at_of (by omega) hm, fun p2 hp2 => ?_⟩
    obtain ⟨k, hk, k1, k2, k3⟩ := tab3 m m2
    refine ⟨p2, _, _, _, rfl, rfl, .of upd_same, at_of (j := m) (by omega) hk, k, rfl, by omega, fun p3 hp3 => ?_⟩
    have d0 : 0 ≤ c / 6 % k := Int.emod_nonneg _ (by omega)
    have d1 : c / 6 % k < k := Int.emod_lt_of_pos _ (by omega)
    refine q p3 _ (2 + c / 6 % k).toNat m (((Le.new hp1).trans (.new hp2)).trans (.new hp3)) ?_ ⟨by omega, by omega, m2, fun e => ?_⟩
    · rw [upd_same, Int.toNat_of_nonneg (by omega)]
    · have := k3 e
      omega
def spPaths : Sp := fun vs H Q _ => ∃ (n k : Nat), vs = [.int n, .int k] ∧ 2 ≤ n ∧ n ≤ 10 ∧ 1 ≤ k ∧ k ≤ 3 ∧ ∀ d H' ys, H d = none → Le H H' → H' d = some (.lst ys) → Ats H' ((pathsM n k).map pk) ys → Q (.ref d) H'
abbrev s_law_paths : Stmt := top 34
abbrev n_law_paths : List Str := ["_law_hands_here", "_law_size", "_law_found", "_law_turn", "_law_path", "_law_hand"]
theorem sc_law_paths : FnScope ["_law_hands_here", "_law_size", "_law_found", "_law_turn", "_law_path", "_law_hand"] ["_law_hands_here", "_law_size"] (defScope s_law_paths) := ⟨rfl, rfl, rfl, by decide +kernel, rfl, by decide +kernel, by decide +kernel⟩
theorem ok_law_paths {f : Addr} {fd : FuncData} (F : Fun K "_law_paths" "_law_paths" s_law_paths f fd) (T : Bt mg) : FnOk P w K mg base CX0 1 f fd ["_law_hands_here", "_law_size"] spPaths := by
  refine F.ok sc_law_paths (fun vs H Q E h => ?_) (fun cdv A outer s H vs Q E hr h => ?_)
  · obtain ⟨n, k, rfl, _⟩ := h
    rfl
  · obtain ⟨n, k, rfl, hn2, hn10, hk1, hk3, q⟩ := h
    refine ⟨_, (pss_cons (ps_set (i := 2) sc_law_paths.nd rfl (Or.inl rfl) (pe_lst (pa_cons (pe_tup (pa_cons pe_int pa_nil)) pa_nil)))
        (pss_cons (ps_for PassesOwn.never rfl (pi_range1 (by rfl) T.b_range (pa_cons (pe_op op_sub (pe_callB (call_min2 rfl) (by rfl) T.b_min bb_min (pa_cons (pv 1) (pa_cons (pe_op op_sub (pv 0) pe_int) pa_nil))) pe_int) pa_nil)) (pg_name (i := 3) sc_law_paths.nd rfl (Or.inl rfl))
          (pss_one (ps_set (i := 2) sc_law_paths.nd rfl (Or.inl rfl) (pe_callB (sumLK (K := K) rfl rfl) (by rfl) T.b_sum bb_sum (pa_cons (pe_lc (own := [("_law_path", 4)]) (g := gName 4) rfl sc_law_paths.nd (pi_listK (K := K) rfl (pv 2)) (blkOk_by (N := n_law_paths) (sc := defScope s_law_paths) (own := [("_law_path", 4)]) (by decide +kernel)) (fun _ _ _ _ _ => (pg_name (i := 4) sc_law_paths.nd rfl (Or.inr rfl))) (fun _ _ _ _ _ => pts_nil) (fun _ _ _ _ _ => (pe_lc (own := [("_law_hand", 5)]) (g := gName 5) rfl sc_law_paths.nd (pi_range1 (by rfl) T.b_range (pa_cons (pv 0) pa_nil)) (blkOk_by (own := [("_law_hand", 5)]) (by kernel_rfl)) (fun _ _ _ _ _ => (pg_name (i := 5) sc_law_paths.nd rfl (Or.inl rfl))) (fun _ _ _ _ _ => pts_one (pt_cmpR (notIn_seqK (K := K) rfl) (pv 5) (pv 4) rfl)) (fun _ _ _ _ _ => (pe_op (catTK (K := K) rfl) (pv 4) (pe_tup (pa_cons (pv 5) pa_nil))))))) (pa_cons (pe_lst pa_nil) pa_nil))))))
        (pss_one (ps_ret (pe_lc (own := [("_law_path", 4)]) (g := gName 4) rfl sc_law_paths.nd (pi_listK (K := K) rfl (pv 2)) (blkOk_by (N := n_law_paths) (sc := defScope s_law_paths) (own := [("_law_path", 4)]) (by decide +kernel)) (fun _ _ _ _ _ => (pg_name (i := 4) sc_law_paths.nd rfl (Or.inl rfl))) (fun _ _ _ _ _ => pts_one (pt_cmpR op_eq (pe_callB (len_seqK (K := K) rfl) (by rfl) T.b_len bb_len (pa_cons (pv 4) pa_nil)) (pv 1) (nomark _))) (fun _ _ _ _ _ => (pv 4))))))), ?_⟩
    walk_at "rg"
    intro p1 hp1 p2 hp2
    refine ⟨by split <;> omega, by split <;> omega, ?_⟩
    have hcnt : ((if (n : Int) - 1 < k then (n : Int) - 1 else k) - 1).toNat = min k (n - 1) - 1 := by split <;> omega
    rw [hcnt]
    have h12 : p1 ≠ p2 := fun e => by
      subst e
      rw [upd_same] at hp2
      cases hp2
    refine for_it walk_range (fun i σ H' => ∃ (a : Addr) (v3 : Option V) (ys : List V), σ = [some (.int n), some (.int k), some (.ref a), v3, none, none] ∧ Le H H' ∧ H' a = some (.lst ys) ∧ Ats H' ((lvlM n i).map pk) ys)
      ⟨_, _, _, rfl, (Le.new hp1).trans (.new hp2), upd_same, Ats.cons (pk_at (p := [0]) (by rw [upd_ne h12]; exact upd_same)) Ats.nil⟩ (fun _ _ _ _ _ => True.intro) ?_ ?_
    · rintro i x σ H1 H2 hi ⟨a, v3, ys, rfl, l, ha, hA⟩ ⟨rfl, rfl⟩
      walk_at "rg"
      have hi2 : i ≤ 2 := by omega
      refine ⟨⟨_, .of ha⟩, fun D hD => ?_⟩
      have hyl := hA.length
      rw [List.length_map] at hyl
      have hll := lvl_small (k := i) hn10 hi2
      have hll2 := lvl_length n (i + 1)
      refine lc_lists (walk_listN rfl) hD (by omega) (fun j H' xs => Ats H' ((((lvlM n i).map fun p => (hear n p).map fun h => pk (p ++ [h]))[j]?).getD []) xs) (fun _ _ _ _ r t => r.keep t _ _) (fun H' l' => .of (l'.lst ha)) (fun j x H' H'' hj l' hy Yk Nk kY hD' => ?_) (fun H' bs xss l' hbs hxl hpr hR => ?_)
      · obtain ⟨rfl, hx⟩ := hy
        refine ⟨rfl, ?_⟩
        obtain ⟨d, hd, hAx⟩ := (hA.le l').get' hx
        rw [List.getElem?_map] at hd
        obtain ⟨p, hp, rfl⟩ := Option.map_eq_some_iff.mp hd
        obtain ⟨b, rfl, hb⟩ := pk_of hAx
        have hpP := ((mem_lvl (by omega)).mp (List.mem_of_getElem? hp)).1
        walk_at "rg"
        refine ⟨by omega, by omega, fun D2 hD2 => ?_⟩
        refine lc_data walk_range hD2 (by omega) (fun i : Nat => if (i : Int) ∉ p then some (pk (p ++ [(i : Int)])) else none) (fun _ _ => True.intro) (fun i2 x H5 H6 hi2 l5 hy Yk2 Nk2 kY2 kN2 => ?_) (fun H5 zs l5 hzs hz => ?_)
        · obtain ⟨rfl, rfl⟩ := hy
          refine ⟨rfl, ?_⟩
          walk_at "rg"
          refine ⟨b, _, rfl, .inr (.of (l5.tup hb)), rfl, ints_flat p, ?_⟩
          rw [inV_ints]
          refine ⟨_, rfl, ?_⟩
          by_cases hc : (i2 : Int) ∈ p
          · rw [decide_eq_true hc]
            exact kN2 _ (.refl _) (if_neg (fun h => h hc))
          · rw [decide_eq_false hc]
            refine iteT ?_
            intro c hcn
            refine ⟨_, .of (by rw [upd_ne (ne_of_none (l5.tup hb) hcn)]; exact l5.tup hb), [.int i2], .of upd_same, fun e => ?_, ?_, fun e => (nomatch e), fun _ b2 hb2 => ?_⟩
            · have h1 := hpP.pos
              rw [List.map_eq_nil_iff] at e
              rw [e] at h1
              exact absurd h1 (by decide)
            · have h2 := nodup_len n p hpP.nd hpP.mem
              rw [List.length_map, sizeLine_eq]
              show p.length + 1 ≤ _
              omega
            · refine kY2 _ _ _ ((Le.new hcn).trans (.new hb2)) (if_pos hc) (pk_at ?_)
              rw [upd_same, List.map_append]
              rfl
        · refine kY D2 zs H5 l5 hD' (fun e => hD' (e ▸ hD2)) hzs ?_
          rw [Int.toNat_natCast, hear_fm2] at hz
          rw [List.getElem?_map, hp]
          exact hz
      · walk_at "rg"
        intro p5 hp5
        have hat := ats_flat (dss := (lvlM n i).map fun p => (hear n p).map fun h => pk (p ++ [h])) (by rw [List.length_map, hxl, hyl]) hR
        have hlen : xss.flatten.length = (lvlM n (i + 1)).length := by
          rw [hat.length, lvl_flat, List.length_map]
        refine ⟨D, p5, bs, xss, rfl, .of (by rw [upd_ne (ne_of_none hbs hp5)]; exact hbs), upd_same, paired_keep (fun b xs _ e => by rw [upd_ne (ne_of_none e hp5)]; exact e) hpr, ?_, fun p6 H6 l6 h6 => ?_⟩
        · rw [hlen]
          exact Nat.le_trans hll2 (Nat.le_trans (Nat.pow_le_pow_left hn10 _) (Nat.le_trans (Nat.pow_le_pow_right (by decide) (by omega : i + 1 ≤ 3)) (by rw [sizeLine_eq]; decide)))
        · refine ⟨p6, rfl, ((l.trans l').trans (.new hp5)).trans l6, _, h6, ?_⟩
          rw [← lvl_flat]
          exact hat.le ((Le.new hp5).trans l6)
    · rintro σ H1 ⟨a, v3, ys, rfl, l, ha, hA⟩
      walk_at "rg"
      refine ⟨⟨_, .of ha⟩, fun D hD => ?_⟩
      have hyl := hA.length
      rw [List.length_map] at hyl
      have hll := lvl_small (n := n) (k := min k (n - 1) - 1) hn10 (by omega)
      refine lc_data (walk_listN rfl) hD (by omega) (fun j => (lvlM n (min k (n - 1) - 1))[j]?.bind fun p => if p.length = k then some (pk p) else none) (fun H' l' => .of (l'.lst ha)) (fun j x H' H'' hj l' hy Yk Nk kY kN => ?_) (fun H' zs l' hzs hz => ?_)
      · obtain ⟨rfl, hx⟩ := hy
        refine ⟨rfl, ?_⟩
        obtain ⟨d, hd, hAx⟩ := (hA.le l').get' hx
        rw [List.getElem?_map] at hd
        obtain ⟨p, hp, rfl⟩ := Option.map_eq_some_iff.mp hd
        obtain ⟨b, rfl, hb⟩ := pk_of hAx
        rw [hp] at kY kN
        walk_at "rg"
        refine ⟨b, _, rfl, .inr (.of hb), rfl, ?_⟩
        rw [List.length_map, dec_int]
        refine ite2 (fun hc => ?_) (fun hc => ?_)
        · refine kY _ _ _ (.refl _) (if_pos ?_) (pk_at hb)
          have := of_decide_eq_true hc
          omega
        · refine kN _ (.refl _) (if_neg fun h => hc ?_)
          exact decide_eq_true (by omega)
      · refine q D H' zs (l.back hD) (l.trans l') hzs ?_
        rw [fm_get' _ hyl, fm_if (fun p : List Int => p.length = k) pk] at hz
        exact hz
/-! _law_liars -/
theorem free_one {n : Nat} {ls : List Int} (nd : ls.Nodup) (hl : ls.length < n) : ∃ z : Int, 0 ≤ z ∧ z < n ∧ z ∉ ls := by
  by_cases h : ∃ z : Int, 0 ≤ z ∧ z < n ∧ z ∉ ls
  · exact h
  · exfalso
    have h2 : ∀ x ∈ (List.range n).map Int.ofNat, x ∈ ls := fun x hx => by
      obtain ⟨i, hi, rfl⟩ := List.mem_map.mp hx
      have := List.mem_range.mp hi
      by_cases hm : Int.ofNat i ∈ ls
      · exact hm
      · exact absurd ⟨Int.ofNat i, Int.natCast_nonneg i, Int.ofNat_lt.mpr this, hm⟩ h
    have h3 := sub_len (xs := (List.range n).map Int.ofNat) (ys := ls) (by
      rw [List.nodup_iff_pairwise_ne, List.pairwise_map]
      exact List.nodup_range.imp fun h e => h (Int.ofNat.inj e)) h2
    rw [List.length_map, List.length_range] at h3
    omega
def spLiars : Sp := fun vs H Q _ => ∃ (c : Int) (n k : Nat), vs = [.int c, .int n, .int k] ∧ 2 ≤ n ∧ n ≤ 10 ∧ k ≤ n ∧ ∀ (l : Addr) (ls : List Int) H', H l = none → Le H H' → H' l = some (.lst (ls.map .int)) → ls.length = k → ls.Nodup → (∀ z ∈ ls, 0 ≤ z ∧ z < n) → Q (.ref l) H'
abbrev s_law_liars : Stmt := top 35
theorem sc_law_liars : FnScope ["_law_cell", "_law_hands_here", "_law_many", "_law_found", "_law_k", "_law_hand"] ["_law_cell", "_law_hands_here", "_law_many"] (defScope s_law_liars) := ⟨rfl, rfl, rfl, by decide +kernel, rfl, by decide +kernel, by decide +kernel⟩
theorem ok_law_liars {f : Addr} {fd : FuncData} (F : Fun K "_law_liars" "_law_liars" s_law_liars f fd) (T : Bt mg) : FnOk P w K mg base CX0 1 f fd ["_law_cell", "_law_hands_here", "_law_many"] spLiars := by
  refine F.ok sc_law_liars (fun vs H Q E h => ?_) (fun cdv A outer s H vs Q E hr h => ?_)
  · obtain ⟨c, n, k, rfl, _⟩ := h
    rfl
  · obtain ⟨c, n, k, rfl, hn, hn2, hk, q⟩ := h
    have hu := hr.units
    refine ⟨_, (pss_cons (ps_set (i := 3) sc_law_liars.nd rfl (Or.inl rfl) (pe_lst pa_nil))
        (pss_cons (ps_for PassesOwn.never rfl (pi_range1 (by rfl) T.b_range (pa_cons (pv 2) pa_nil)) (pg_name (i := 4) sc_law_liars.nd rfl (Or.inl rfl))
          (pss_cons (ps_set (i := 5) sc_law_liars.nd rfl (Or.inl rfl) (pe_op op_mod (pe_op op_fdiv (pv 0) (pe_op op_add pe_int (pe_op op_mul pe_int (pv 4)))) (pv 1)))
          (pss_cons (ps_while PassesOwn.never (pt_cmpR (in_seqK (K := K) rfl) (pv 5) (pv 3) rfl)
            (pss_one (ps_set (i := 5) sc_law_liars.nd rfl (Or.inl rfl) (pe_op op_mod (pe_op op_add (pv 5) pe_int) (pv 1)))))
          (pss_one (ps_expr (bmK (K := K) rfl (pe_bm PySem.F.plainAttrs_list PySem.F.slot_list_append PySem.F.type_list_append mt_append (pv 3) (pa_cons (pv 5) pa_nil))))))))
        (pss_one (ps_ret (pv 3))))), ?_⟩
    walk_at "rg"
    intro p hp
    have s300 : ∀ z : Nat, z ≤ 1000 → z < sizeLine := fun z hz => by rw [sizeLine_eq]; omega
    refine ⟨by omega, by omega, ?_⟩
    rw [Int.toNat_natCast]
    refine for_it walk_range (fun i σ H' => ∃ (v4 v5 : Option V) (ls : List Int), σ = [some (.int c), some (.int n), some (.int k), some (.ref p), v4, v5] ∧ Le H H' ∧ H' p = some (.lst (ls.map .int)) ∧ ls.length = i ∧ ls.Nodup ∧ ∀ z ∈ ls, 0 ≤ z ∧ z < n)
      ⟨_, _, [], rfl, .new hp, upd_same, rfl, List.nodup_nil, fun _ h => nomatch h⟩ (fun _ _ _ _ _ => True.intro) ?_ ?_
    · rintro i y σ H2 H3 hi ⟨v4, v5, ls, rfl, l2, g, hll, nd, hin⟩ ⟨rfl, rfl⟩
      walk_at "rg"
      obtain ⟨z, z0, z1, hz⟩ := free_one (n := n) nd (by omega)
      have hnp : (0 : Int) < n := by omega
      refine ⟨by omega, by omega, hnp, ?_⟩
      have e0 := Int.emod_nonneg (c / (1 + 3 * (i : Int))) (show (n : Int) ≠ 0 by omega)
      have e1 := Int.emod_lt_of_pos (c / (1 + 3 * (i : Int))) hnp
      refine ⟨fun m σ' H' => ∃ hand : Int, σ' = [some (.int c), some (.int n), some (.int k), some (.ref p), some (.int i), some (.int hand)] ∧ H' = H3 ∧ 0 ≤ hand ∧ hand < n ∧ m = (if hand ≤ z then z - hand else z - hand + n).toNat, ⟨_, _, rfl, rfl, e0, e1, rfl⟩, ?_⟩
      rintro m σ' H3x ⟨hand, rfl, eH, d0, d1, rfl⟩
      subst eH
      walk_at "rg"
      refine ⟨p, _, rfl, .inl (.of g), rfl, ints_flat ls, ?_⟩
      rw [inV_ints]
      refine ⟨_, rfl, ?_⟩
      by_cases hm : hand ∈ ls
      · rw [decide_eq_true hm]
        have hne : hand ≠ z := fun e => hz (e ▸ hm)
        have en : ∃ h2 : Int, (hand + 1) % (n : Int) = h2 ∧ 0 ≤ h2 ∧ h2 < n ∧ (if h2 ≤ z then z - h2 else z - h2 + n).toNat < (if hand ≤ z then z - hand else z - hand + n).toNat := by
          by_cases hl : hand + 1 < n
          · refine ⟨hand + 1, Int.emod_eq_of_lt (by omega) hl, by omega, hl, ?_⟩
            split <;> split <;> omega
          · have e : hand + 1 = n := by omega
            refine ⟨0, by rw [e, Int.emod_self], by omega, by omega, ?_⟩
            split <;> split <;> omega
        obtain ⟨h2, e2, b0, b1, hlt⟩ := en
        refine iteT ⟨fun σ' H' => σ' = [some (.int c), some (.int n), some (.int k), some (.ref p), some (.int i), some (.int h2)] ∧ H' = H3x, ?_, ?_⟩
        · rintro σ' H' ⟨rfl, rfl⟩
          exact ⟨_, hlt, h2, rfl, rfl, b0, b1, rfl⟩
        · rw [e2]
          exact ⟨hnp, rfl, rfl⟩
      · rw [decide_eq_false hm]
        refine iteF ⟨.inl ⟨rfl, _, .of g⟩, _, g, s300 _ (by rw [List.length_map]; omega), l2.mut hp, ls ++ [hand], by rw [upd_same, List.map_append]; rfl, by rw [List.length_append, hll]; rfl, ?_, fun y hy => ?_⟩
        · rw [List.nodup_append]
          exact ⟨nd, by simp, fun a ha b hb e => hm (by rw [List.mem_singleton.mp hb] at e; rw [← e]; exact ha)⟩
        · rcases List.mem_append.mp hy with h | h
          · exact hin y h
          · rw [List.mem_singleton.mp h]
            exact ⟨d0, d1⟩
    · rintro σ H2 ⟨v4, v5, ls, rfl, l2, g, hll, nd, hin⟩
      walk_at "rg"
      exact q p ls H2 hp l2 g hll nd hin
/-! _law_mixed, _law_lie, _law_lies -/
def spMixed (K : PySem.W.Frag) : Sp := fun vs H Q _ => ∃ (a : Addr) (ns : List Int) (k : Int), vs = [.ref a, .int k] ∧ SqL K H a (ns.map V.int) ∧ ns.length ≠ 0 ∧ ns.length ≤ 63 ∧ 0 ≤ k ∧ k ≤ 100000 ∧ ∀ z : Int, 0 ≤ z → Q (.int z) H
abbrev s_law_mixed : Stmt := top 36
theorem sc_law_mixed : FnScope ["_law_script", "_law_k", "_law_cell", "_law_mixed_here"] ["_law_script", "_law_k"] (defScope s_law_mixed) := ⟨rfl, rfl, rfl, by decide +kernel, rfl, by decide +kernel, by decide +kernel⟩
theorem ok_law_mixed {f : Addr} {fd : FuncData} (F : Fun K "_law_mixed" "_law_mixed" s_law_mixed f fd) (T : Bt mg) : FnOk P w K mg base CX0 1 f fd ["_law_script", "_law_k"] (spMixed K) := by
  refine F.ok sc_law_mixed (fun vs H Q E h => ?_) (fun cdv A outer s H vs Q E hr h => ?_)
  · obtain ⟨a, ns, k, rfl, _⟩ := h
    rfl
  · obtain ⟨a, ns, k, rfl, hS, h0, h63, hk0, hk, q⟩ := h
    have hu := hr.units
    refine ⟨_, (pss_cons (ps_set (i := 2) sc_law_mixed.nd rfl (Or.inl rfl) (pe_ix (ix_listK (K := K) rfl) (pv 0) (pe_op op_mod (pv 1) (pe_callB (len_seqK (K := K) rfl) (by rfl) T.b_len bb_len (pa_cons (pv 0) pa_nil))) (fun _ _ => rfl)))
        (pss_cons (ps_set (i := 3) sc_law_mixed.nd rfl (Or.inl rfl) (pe_op op_mod (pe_op op_add (pe_op op_add (pv 2) (pe_op op_mul pe_int (pv 1))) (pe_op op_mul (pe_op op_mul (pe_callB (len_seqK (K := K) rfl) (by rfl) T.b_len bb_len (pa_cons (pv 0) pa_nil)) (pv 1)) (pv 1))) pe_int))
        (pss_one (ps_ret (pe_op op_fdiv (pe_op op_mod (pe_op op_mul (pe_op op_mod (pe_op op_mul (pv 3) (pv 3)) pe_int) pe_int) pe_int) pe_int))))), ?_⟩
    walk_at "rg"
    have hlen : (0 : Int) < (ns.length : Nat) := by omega
    have e0 := Int.emod_nonneg k (show ((ns.length : Nat) : Int) ≠ 0 by omega)
    have e1 := Int.emod_lt_of_pos k hlen
    have hat : ns[(k % (ns.length : Nat)).toNat]? = some ns[(k % (ns.length : Nat)).toNat]! := by
      rw [List.getElem!_eq_getElem?_getD, List.getElem?_eq_getElem (show (k % (ns.length : Nat)).toNat < ns.length by omega)]
      rfl
    generalize ns[(k % (ns.length : Nat)).toNat]! = v at hat
    refine ⟨a, _, rfl, .inl hS, _, rfl, by rw [List.length_map]; exact hlen, ?_⟩
    rw [List.length_map]
    refine ⟨a, _, _, .int v, rfl, rfl, hS, at_of (j := (k % (ns.length : Nat)).toNat) (by omega) (by rw [List.getElem?_map, hat]; rfl), v, rfl, a, _, rfl, .inl hS, _, rfl, .inr ⟨by omega, by omega⟩, .inr ⟨by omega, by omega⟩, ?_⟩
    generalize v + 7919 * k + ((ns.map V.int).length : Nat) * k * k = u
    exact ⟨.inl ⟨by omega, by omega⟩, q _ (Int.ediv_nonneg (Int.emod_nonneg _ (by decide)) (by decide))⟩
theorem pick_sg {xs : List V} {z : Int} (h0 : 0 ≤ z) (h1 : z < xs.length) (h : ∀ v ∈ xs, ∃ o, v = sg o ∧ ∀ s, o = some s → IsSign s) : ∃ o, atI xs z = some (sg o) ∧ ∀ s, o = some s → IsSign s := by
  have hl : z.toNat < xs.length := by omega
  obtain ⟨o, e, g⟩ := h _ (List.getElem_mem hl)
  exact ⟨o, at_of (j := z.toNat) (by omega) (by rw [List.getElem?_eq_getElem hl, e]), g⟩
def spLie (K : PySem.W.Frag) : Sp := fun vs H Q _ => ∃ (a sa b : Addr) (ns : List Int) (ss : List Str) (p : List Int) (h k : Int), vs = [.ref a, .ref sa, .ref b, .int h, .int k] ∧ SqL K H a (ns.map V.int) ∧ ns.length ≠ 0 ∧ ns.length ≤ 63 ∧ 0 ≤ k ∧ k ≤ 100000 ∧ H sa = some (.lst (ss.map .str)) ∧ ss.length = 4 ∧ (∀ s ∈ ss, IsSign s) ∧ H b = some (.tup (p.map .int)) ∧ 1 ≤ p.length ∧
  ∀ (o : Option Str) H', (∀ s, o = some s → IsSign s) → Le H H' → Q (sg o) H'
abbrev s_law_lie : Stmt := top 37
theorem sc_law_lie : FnScope ["_law_script", "_law_signs_here", "_law_path", "_law_hearer", "_law_k", "_law_way"] ["_law_script", "_law_signs_here", "_law_path", "_law_hearer", "_law_k"] (defScope s_law_lie) := ⟨rfl, rfl, rfl, by decide +kernel, rfl, by decide +kernel, by decide +kernel⟩
theorem ok_law_lie {f f1 f2 : Addr} {fd fd1 fd2 : FuncData} (F : Fun K "_law_lie" "_law_lie" s_law_lie f fd) (T : Bt mg) (c_law_cell_at : Cal P w K mg base CX0 1 "_law_cell_at" ["_law_script", "_law_k"] (spCell K) f1 fd1)
    (c_law_mixed : Cal P w K mg base CX0 1 "_law_mixed" ["_law_script", "_law_k"] (spMixed K) f2 fd2) : FnOk P w K mg base CX0 2 f fd ["_law_script", "_law_signs_here", "_law_path", "_law_hearer", "_law_k"] (spLie K) := by
  refine F.ok sc_law_lie (fun vs H Q E h => ?_) (fun cdv A outer s H vs Q E hr h => ?_)
  · obtain ⟨a, sa, b, ns, ss, p, h, k, rfl, _⟩ := h
    rfl
  · obtain ⟨a, sa, b, ns, ss, p, h, k, rfl, hS, h0, h63, hk0, hk, hsa, h4, hss, hb, hp, q⟩ := h
    have hu := hr.units
    refine ⟨_, (pss_cons (ps_set (i := 5) sc_law_lie.nd rfl (Or.inl rfl) (pe_op op_mod (pe_own c_law_cell_at (hr.mono (by omega)) rfl (pa_cons (pv 0) (pa_cons pe_int pa_nil))) pe_int))
        (pss_cons (ps_if (pt_cmpR op_eq (pv 5) pe_int (nomark _))
          (pss_one (ps_ret (pe_ix (ix_listK (K := K) rfl) (pe_lst (pa_cons (pe_ix (ix_listK (K := K) rfl) (pv 1) pe_int (fun _ _ => rfl)) (pa_cons (pe_ix (ix_listK (K := K) rfl) (pv 1) pe_int (fun _ _ => rfl)) pa_nil))) (pe_op op_mod (pv 3) pe_int) (fun _ _ => rfl))))
          pss_nil)
        (pss_cons (ps_if (pt_cmpR op_eq (pv 5) pe_int (nomark _))
          (pss_one (ps_ret (pe_ix (ix_listK (K := K) rfl) (pe_lst (pa_cons (pe_ix (ix_listK (K := K) rfl) (pv 1) pe_int (fun _ _ => rfl)) (pa_cons (pe_ix (ix_listK (K := K) rfl) (pv 1) pe_int (fun _ _ => rfl)) (pa_cons (pe_ix (ix_listK (K := K) rfl) (pv 1) pe_int (fun _ _ => rfl)) (pa_cons pe_non pa_nil))))) (pe_op op_mod (pe_op op_add (pe_op op_add (pv 3) (pe_callB (len_seqK (K := K) rfl) (by rfl) T.b_len bb_len (pa_cons (pv 2) pa_nil))) (pe_ix (ix_tupK (K := K) rfl) (pv 2) (pe_un un_neg pe_int) (fun _ _ => rfl))) pe_int) (fun _ _ => rfl))))
          pss_nil)
        (pss_cons (ps_if (pt_cmpR op_eq (pv 5) pe_int (nomark _))
          (pss_one (ps_ret (pe_ix (ix_listK (K := K) rfl) (pv 1) pe_int (fun _ _ => rfl))))
          pss_nil)
        (pss_one (ps_ret (pe_ix (ix_listK (K := K) rfl) (pe_op op_cat (pv 1) (pe_lst (pa_cons pe_non pa_nil))) (pe_op op_mod (pe_own c_law_mixed (hr.mono (by omega)) rfl (pa_cons (pv 0) (pa_cons (pv 4) pa_nil))) pe_int) (fun _ _ => rfl)))))))), ?_⟩
    walk_at "rg"
    have sg1 : ∀ v ∈ ss.map V.str, ∃ o, v = sg o ∧ ∀ s, o = some s → IsSign s := fun v hv => by
      obtain ⟨s, hs, rfl⟩ := List.mem_map.mp hv
      exact ⟨some s, rfl, fun s' e => by cases e; exact hss s hs⟩
    have gn : ∃ o, V.non = sg o ∧ ∀ s, o = some s → IsSign s := ⟨none, rfl, fun _ e => nomatch e⟩
    have one : ∀ z : Int, 0 ≤ z → z < 4 → ∃ o, atI (ss.map V.str) z = some (sg o) ∧ ∀ s, o = some s → IsSign s := fun z h0 h1 => pick_sg h0 (by rw [List.length_map]; omega) sg1
    obtain ⟨o0, a0, g0⟩ := one 0 (by decide) (by decide)
    obtain ⟨o1, a1, g1⟩ := one 1 (by decide) (by decide)
    obtain ⟨o2, a2, g2⟩ := one 2 (by decide) (by decide)
    refine ⟨a, ns, 2, rfl, hS, h63, by decide, _, rfl, ite2 (fun _ => ?_) (fun _ => ite2 (fun _ => ?_) (fun _ => ite2 (fun _ => ?_) (fun _ => ?_)))⟩
    · refine ⟨sa, _, _, _, rfl, rfl, .of hsa, a1, sa, _, _, _, rfl, rfl, .of hsa, a2, fun p1 hp1 => ?_⟩
      obtain ⟨o, ho, go⟩ := pick_sg (xs := [sg o1, sg o2]) (z := h % 2) (by omega) (by show h % 2 < 2; omega) (fun v hv => by
        rcases List.mem_cons.mp hv with e | e
        · exact ⟨o1, e, g1⟩
        · exact ⟨o2, List.mem_singleton.mp e, g2⟩)
      exact ⟨p1, _, _, _, rfl, rfl, .of upd_same, ho, q o _ go (.new hp1)⟩
    · refine ⟨sa, _, _, _, rfl, rfl, .of hsa, a1, sa, _, _, _, rfl, rfl, .of hsa, a0, sa, _, _, _, rfl, rfl, .of hsa, a1, fun p1 hp1 => ?_⟩
      refine ⟨b, _, rfl, .inr (.of ((Le.new hp1).tup hb)), _, rfl, b, _, _, _, rfl, rfl, .of ((Le.new hp1).tup hb), at_lastM hp, _, rfl, ?_⟩
      generalize (h + ((p.map V.int).length : Nat) + lastM p) = u
      obtain ⟨o, ho, go⟩ := pick_sg (xs := [sg o1, sg o0, sg o1, .non]) (z := u % 4) (by omega) (by show u % 4 < 4; omega) (fun v hv => by
        rcases List.mem_cons.mp hv with e | e
        · exact ⟨o1, e, g1⟩
        · rcases List.mem_cons.mp e with e | e
          · exact ⟨o0, e, g0⟩
          · rcases List.mem_cons.mp e with e | e
            · exact ⟨o1, e, g1⟩
            · rw [List.mem_singleton.mp e]
              exact gn)
      exact ⟨p1, _, _, _, rfl, rfl, .of upd_same, ho, q o _ go (.new hp1)⟩
    · exact ⟨sa, _, _, _, rfl, rfl, .of hsa, a1, q o1 _ g1 (.refl H)⟩
    · intro p1 hp1
      have l1 : Le H (L2.upd H p1 (.lst [.non])) := .new hp1
      refine ⟨sa, p1, _, _, rfl, rfl, l1.lst hsa, upd_same, by rw [List.length_map, sizeLine_eq, h4]; decide, fun p2 hp2 => ?_⟩
      have l2 : Le H (L2.upd (L2.upd H p1 (.lst [.non])) p2 (.lst (ss.map .str ++ [.non]))) := l1.trans (.new hp2)
      refine ⟨a, ns, k, rfl, l2.sql hS, h0, h63, hk0, hk, fun z hz => ⟨z, rfl, ?_⟩⟩
      obtain ⟨o, ho, go⟩ := pick_sg (xs := ss.map .str ++ [.non]) (z := z % 5) (by omega) (by rw [List.length_append, List.length_map, h4]; show z % 5 < 5; omega) (fun v hv => by
        rcases List.mem_append.mp hv with e | e
        · exact sg1 v e
        · rw [List.mem_singleton.mp e]
          exact gn)
      exact ⟨p2, _, _, _, rfl, rfl, .of upd_same, ho, q o _ go l2⟩
def spLies (K : PySem.W.Frag) (P : Program) (w : World) : Sp := fun vs H Q _ => ∃ (a sa la : Addr) (ns : List Int) (n m : Nat) (ss : List Str) (ls : List Int), vs = [.ref a, .int n, .int m, .ref sa, .ref la] ∧ SqL K H a (ns.map V.int) ∧ ns.length ≠ 0 ∧ ns.length ≤ 63 ∧ 2 ≤ n ∧ n ≤ 10 ∧ m ≤ 2 ∧ H sa = some (.lst (ss.map .str)) ∧ ss.length = 4 ∧ (∀ s ∈ ss, IsSign s) ∧ H la = some (.lst (ls.map .int)) ∧
  ∀ d kvs H', H d = none → Le H H' → ND P w H' d kvs → LiesK n m ls kvs → Q (.ref d) H'
abbrev s_law_lies : Stmt := top 38
abbrev n_law_lies : List Str := ["_law_script", "_law_hands_here", "_law_most", "_law_signs_here", "_law_liars_here", "_law_found", "_law_k", "_law_size", "_law_path", "_law_hearer", "_law_hand"]
theorem sc_law_lies : FnScope ["_law_script", "_law_hands_here", "_law_most", "_law_signs_here", "_law_liars_here", "_law_found", "_law_k", "_law_size", "_law_path", "_law_hearer", "_law_hand"] ["_law_script", "_law_hands_here", "_law_most", "_law_signs_here", "_law_liars_here"] (defScope s_law_lies) := ⟨rfl, rfl, rfl, by decide +kernel, rfl, by decide +kernel, by decide +kernel⟩
theorem ok_law_lies {f f1 f2 f3 : Addr} {fd fd1 fd2 fd3 : FuncData} (F : Fun K "_law_lies" "_law_lies" s_law_lies f fd) (T : Bt mg) (c_law_paths : Cal P w K mg base CX0 1 "_law_paths" ["_law_hands_here", "_law_size"] spPaths f1 fd1)
    (c_law_mixed : Cal P w K mg base CX0 1 "_law_mixed" ["_law_script", "_law_k"] (spMixed K) f2 fd2) (c_law_lie : Cal P w K mg base CX0 2 "_law_lie" ["_law_script", "_law_signs_here", "_law_path", "_law_hearer", "_law_k"] (spLie K) f3 fd3) : FnOk P w K mg base CX0 3 f fd ["_law_script", "_law_hands_here", "_law_most", "_law_signs_here", "_law_liars_here"] (spLies K P w) := by
  refine F.ok sc_law_lies (fun vs H Q E h => ?_) (fun cdv A outer s H vs Q E hr h => ?_)
  · obtain ⟨a, sa, la, ns, n, m, ss, ls, rfl, _⟩ := h
    rfl
  · obtain ⟨a, sa, la, ns, n, m, ss, ls, rfl, hS, h0, h63, hn, hn2, hm, hsa, h4, hss, hla, q⟩ := h
    have hu := hr.units
    refine ⟨_, (pss_cons (ps_set (i := 5) sc_law_lies.nd rfl (Or.inl rfl) pe_nnew)
        (pss_cons (ps_set (i := 6) sc_law_lies.nd rfl (Or.inl rfl) pe_int)
        (pss_cons (ps_for PassesOwn.never rfl (pi_range2 (by rfl) T.b_range (pa_cons pe_int (pa_cons (pe_op op_add (pv 2) pe_int) pa_nil))) (pg_name (i := 7) sc_law_lies.nd rfl (Or.inl rfl))
          (pss_one (ps_for PassesOwn.never rfl (pi_listK (K := K) rfl (pe_own c_law_paths (hr.mono (by omega)) rfl (pa_cons (pv 1) (pa_cons (pv 7) pa_nil)))) (pg_name (i := 8) sc_law_lies.nd rfl (Or.inr rfl))
            (pss_one (ps_if (pt_cmpR (in_seqK (K := K) rfl) (pe_ix (ix_tupK (K := K) rfl) (pv 8) (pe_un un_neg pe_int) (fun _ _ => rfl)) (pv 4) rfl)
              (pss_one (ps_for PassesOwn.never rfl (pi_listK (K := K) rfl (pe_lc (own := [("_law_hand", 10)]) (g := gName 10) rfl sc_law_lies.nd (pi_range1 (by rfl) T.b_range (pa_cons (pv 1) pa_nil)) (blkOk_by (N := n_law_lies) (sc := defScope s_law_lies) (own := [("_law_hand", 10)]) (by decide +kernel)) (fun _ _ _ _ _ => (pg_name (i := 10) sc_law_lies.nd rfl (Or.inl rfl))) (fun _ _ _ _ _ => pts_one (pt_cmpR (notIn_seqK (K := K) rfl) (pv 10) (pv 8) rfl)) (fun _ _ _ _ _ => (pv 10)))) (pg_name (i := 9) sc_law_lies.nd rfl (Or.inl rfl))
                  (pss_cons (ps_set (i := 6) sc_law_lies.nd rfl (Or.inl rfl) (pe_op op_add (pv 6) pe_int))
                  (pss_one (ps_if (pt_cmpR op_gt (pe_op op_mod (pe_own c_law_mixed (hr.mono (by omega)) rfl (pa_cons (pv 0) (pa_cons (pe_op op_add (pe_op op_mul pe_int (pv 6)) pe_int) pa_nil))) pe_int) pe_int (nomark _))
                    (pss_one (ps_nputK (P := P) (w := w) rfl rfl hu (pv 5) (pe_tup (pa_cons (pv 8) (pa_cons (pv 9) pa_nil))) (pe_own c_law_lie (hr.mono (by omega)) rfl (pa_cons (pv 0) (pa_cons (pv 3) (pa_cons (pv 8) (pa_cons (pv 9) (pa_cons (pe_op op_mul pe_int (pv 6)) pa_nil)))))) rfl))
                    pss_nil)))))
              pss_nil)))))
        (pss_one (ps_ret (pv 5)))))), ?_⟩
    walk_at "rg"
    intro D hD hDs
    refine ⟨by omega, by omega, ?_⟩
    rw [show ((m : Int) + 2 - 1).toNat = m + 1 by omega]
    refine for_it walk_range (fun i σ H' => ∃ (k : Int) (v7 v8 v9 : Option V), σ = [some (.ref a), some (.int n), some (.int m), some (.ref sa), some (.ref la), some (.ref D), some (.int k), v7, v8, v9, none] ∧ 0 ≤ k ∧ k ≤ (i : Int) * 1000 ∧ Le H H' ∧ ∃ kvs, ND P w H' D kvs ∧ LiesK n m ls kvs)
      ⟨_, _, _, _, rfl, Int.le_refl 0, by omega, .new hD, [], ⟨hDs, newD, upd_same, newD_ND P w _⟩, fun _ h => nomatch h⟩ (fun _ _ _ _ _ => True.intro) ?_ ?_
    · rintro i x σ H2 H3 hi ⟨k, v7, v8, v9, rfl, k0, k1, l2, kvs2, N2, K2⟩ ⟨rfl, rfl⟩
      walk_at "rg"
      refine ⟨n, i + 1, by simp [Int.add_comm], hn, hn2, by omega, by omega, fun D1 H4 ys hD1 l4 hys hA => ⟨D1, rfl, ⟨_, .of hys⟩, ?_⟩⟩
      have hyl := hA.length
      rw [List.length_map] at hyl
      have hpl := paths_length (n := n) (k := i + 1) hn2 (by omega)
      refine for_it (walk_listN hyl) (fun j σ H' => ∃ (k : Int) (v8 v9 : Option V), σ = [some (.ref a), some (.int n), some (.int m), some (.ref sa), some (.ref la), some (.ref D), some (.int k), some (.int (1 + i)), v8, v9, none] ∧ 0 ≤ k ∧ k ≤ (i : Int) * 1000 + (j : Int) * 10 ∧ Le H H' ∧ H' D1 = some (.lst ys) ∧ Ats H' ((pathsM n (i + 1)).map pk) ys ∧ ∃ kvs, ND P w H' D kvs ∧ LiesK n m ls kvs)
        ⟨k, _, _, rfl, k0, by omega, l2.trans l4, hys, hA, kvs2, N2.le l4, K2⟩ (fun j σ H' _ ⟨_, _, _, _, _, _, _, g, _⟩ => .of g) ?_ ?_
      · rintro j x σ H5 H6 hj ⟨k, v8, v9, rfl, k0, k1, l5, gD, gA, kvs5, N5, K5⟩ ⟨rfl, hx⟩
        obtain ⟨dd, hd, hAx⟩ := gA.get' hx
        rw [List.getElem?_map] at hd
        obtain ⟨p, hp, rfl⟩ := Option.map_eq_some_iff.mp hd
        obtain ⟨b, rfl, hb⟩ := pk_of hAx
        obtain ⟨hpP, hpL, hpN⟩ := (mem_paths hn (by omega)).mp (List.mem_of_getElem? hp)
        walk_at "rg"
        refine ⟨b, _, _, _, rfl, rfl, .of hb, at_lastM hpP.pos, la, _, rfl, .inl (.of (l5.lst hla)), rfl, ints_flat ls, ?_⟩
        rw [inV_ints]
        refine ⟨_, rfl, ?_⟩
        by_cases hlast : lastM p ∈ ls
        · rw [decide_eq_true hlast]
          refine iteT ⟨by omega, by omega, fun D2 hD2 => ?_⟩
          refine lc_data walk_range hD2 (by omega) (fun i : Nat => if (i : Int) ∉ p then some (.num (i : Int)) else none) (fun _ _ => True.intro) (fun i2 x H8 H9 hi2 l8 hy Yk Nk kY kN => ?_) (fun H8 zs l8 hzs hz => ?_)
          · obtain ⟨rfl, rfl⟩ := hy
            refine ⟨rfl, ?_⟩
            walk_at "rg"
            refine ⟨b, _, rfl, .inr (.of (l8.tup hb)), rfl, ints_flat p, ?_⟩
            rw [inV_ints]
            refine ⟨_, rfl, ?_⟩
            by_cases hc : (i2 : Int) ∈ p
            · rw [decide_eq_true hc]
              exact kN _ (.refl _) (if_neg (fun h => h hc))
            · rw [decide_eq_false hc]
              exact kY _ _ _ (.refl _) (if_pos hc) At.int
          · rw [Int.toNat_natCast, hear_fm] at hz
            have ez := hz.ints
            subst ez
            have hhl := hear_length n p
            refine ⟨D2, rfl, ⟨_, .of hzs⟩, for_it (n := (hear n p).length) (walk_listN (by rw [List.length_map])) (fun t σ H' => ∃ (k : Int) (v9 : Option V), σ = [some (.ref a), some (.int n), some (.int m), some (.ref sa), some (.ref la), some (.ref D), some (.int k), some (.int (1 + i)), some (.ref b), v9, none] ∧ 0 ≤ k ∧ k ≤ (i : Int) * 1000 + (j : Int) * 10 + t ∧ Le H H' ∧ H' D1 = some (.lst ys) ∧ Ats H' ((pathsM n (i + 1)).map pk) ys ∧ H' D2 = some (.lst ((hear n p).map .int)) ∧ H' b = some (.tup (p.map .int)) ∧ ∃ kvs, ND P w H' D kvs ∧ LiesK n m ls kvs)
              ⟨k, _, rfl, k0, by omega, l5.trans l8, l8.lst gD, gA.le l8, hzs, l8.tup hb, kvs5, N5.le l8, K5⟩ (fun k σ H' _ ⟨_, _, _, _, _, _, _, _, g, _⟩ => .of g) ?_ ?_⟩
            · rintro t x σ H9 H10 ht ⟨k, v9, rfl, k0, k1, l9, gD, gA, gD2, hb, kvs9, N9, K9⟩ ⟨rfl, hx⟩
              rw [List.getElem?_map, List.getElem?_eq_getElem ht] at hx
              obtain rfl : V.int (hear n p)[t] = x := Option.some.inj hx
              have hxm : (hear n p)[t] ∈ hear n p := List.getElem_mem ht
              generalize (hear n p)[t] = x at hxm
              walk_at "rg"
              have kb : k ≤ 10000 := by omega
              refine ⟨a, ns, 3 * (k + 1) + 1, rfl, l9.sql hS, h0, h63, by omega, by omega, fun z hz => ⟨z, rfl, ite2 (fun _ => ?_) (fun _ => ?_)⟩⟩
              · refine ⟨a, sa, b, ns, ss, p, x, 3 * (k + 1), rfl, l9.sql hS, h0, h63, by omega, by omega, l9.lst hsa, h4, hss, hb, hpP.pos, fun o H11 ho l11 c hc => ?_⟩
                have l12 : Le H10 (L2.upd H11 c (.tup [.ref b, .int x])) := l11.trans (.new hc)
                have hN := N9.le l12
                have hsz := K9.small hn hn2 hm hN.nodup
                refine .inr ⟨kvs9, kk p x, c, hN, rfl, kk_at upd_same (l12.tup hb), kk_depth p x, by rw [sizeLine_eq]; omega, fun o2 ho2 => ?_⟩
                obtain ⟨_, o0, hr0, _⟩ := id hN
                have tp : Tups (L2.upd H11 c (.tup [.ref b, .int x])) (L2.upd (L2.upd H11 c (.tup [.ref b, .int x])) D (raw D o2)) := tups_upd hr0 (fun _ z => nomatch z)
                have keepL : ∀ {a : Addr} {xs : List V}, H10 a = some (.lst xs) → (L2.upd (L2.upd H11 c (.tup [.ref b, .int x])) D (raw D o2)) a = some (.lst xs) := fun {a xs} h => by
                  rw [upd_ne (fun z => ?_)]
                  · exact l12.lst h
                  · rw [← z, l12.lst h] at hr0
                    cases hr0
                refine ⟨by omega, by omega, (l9.trans l12).mut hD, keepL gD, gA.keep (fun a xs h => tp a xs (l12.tup h)) _ _, keepL gD2, tp _ _ (l12.tup hb), _, nd_raw (H' := L2.upd H11 c (.tup [.ref b, .int x])) hN ho2, K9.put ⟨p, x, o, rfl, hpP, by omega, by omega, hlast, hxm, ho⟩⟩
              · exact ⟨by omega, by omega, l9, gD, gA, gD2, hb, kvs9, N9, K9⟩
            · rintro σ H9 ⟨k, v9, rfl, k0, k1, l9, gD, gA, gD2, hb, kvs9, N9, K9⟩
              refine ⟨k, _, _, rfl, k0, by omega, l9, gD, gA, kvs9, N9, K9⟩
        · rw [decide_eq_false hlast]
          exact iteF ⟨k0, by omega, l5, gD, gA, kvs5, N5, K5⟩
      · rintro σ H5 ⟨k, v8, v9, rfl, k0, k1, l5, gD, gA, kvs5, N5, K5⟩
        exact ⟨k, _, _, _, rfl, k0, by omega, l5, kvs5, N5, K5⟩
    · rintro σ H2 ⟨k, v7, v8, v9, rfl, k0, k1, l2, kvs2, N2, K2⟩
      walk_at "rg"
      exact q D kvs2 H2 hD l2 N2 K2
end

/-! the readings made plain -/
local macro_rules | `(tactic| walk_at "rd") => `(tactic| simp (config := {decide := true}) only [tSeq, tAsg, gName, tC, tVar, tOp, tUn, rI0, rI, rU, tLst, tTup, tNil, tCons, tCB, tTest, tB, tIfS, tRet, tNext, tDrop, tAnd, tOr, tNot, tAndV, tOrV, tNotV, tIf, tSl, tPart, tNoPart, L2.start, List.map, List.length_cons, List.length_nil, List.replicate, List.set_cons_succ, List.set_cons_zero, List.cons_append, List.nil_append, List.append_nil, List.getElem?_cons_succ, List.getElem?_cons_zero, exists_eq_left', Option.some.injEq, V.int.injEq, V.str.injEq, V.bl.injEq, V.ref.injEq, List.cons.injEq, exists_and_left, exists_eq_left, true_and, and_true, and_self, and_assoc, rIxS, rMulS, rEq, rNe, scal_int, scal_str, scal_bl, CDiv, CMul, Nat.zero_le, true_or, or_true, Nat.zero_add, Nat.reduceAdd, Nat.reduceSub, Int.zero_add, tCall, tYes, wipe, reduceIte, if_true, if_false, Bool.false_eq_true, tBM, tBM0, rAppend, gSub, rSetL, tNGet, sNPut, tNGet2, tNNew])
local macro_rules | `(tactic| walk_at "rg") => `(tactic| simp (config := {decide := true}) only [for_eq, lc_eq, lc2_eq, dc1_eq, dc2_eq, tCallS, tMakeS, tMake, tNClear, tAllL, tAllI, tLenSetT, iNItems, iEnumA, tMethE, tMeth, tFld, sFld, sFldAug, rAdd, iStr, iEnum, iPerm, tChain, tLstRg, tRg1, tRg2, iRng1, iRng2, iList, iTup, iNKeys, List.getElem?_nil, List.length_nil, StX.tStar, rCatT, gTup, gCons, gNil, tSeq, tAsg, gName, tC, tVar, tOp, tUn, rI0, rI, rU, tLst, tTup, tNil, tCons, tCB, tTest, tB, tIfS, tRet, tNext, tDrop, tAnd, tOr, tNot, tAndV, tOrV, tNotV, tIf, tSl, tPart, tNoPart, L2.start, List.map, List.length_cons, List.length_nil, List.replicate, List.set_cons_succ, List.set_cons_zero, List.cons_append, List.nil_append, List.append_nil, List.getElem?_cons_succ, List.getElem?_cons_zero, exists_eq_left', Option.some.injEq, V.int.injEq, V.str.injEq, V.bl.injEq, V.ref.injEq, List.cons.injEq, exists_and_left, exists_eq_left, true_and, and_true, and_self, and_assoc, rIxS, rMulS, rEq, rNe, scal_int, scal_str, scal_bl, CDiv, CMul, Nat.zero_le, true_or, or_true, Nat.zero_add, Nat.reduceAdd, Nat.reduceSub, Int.zero_add, tCall, tYes, wipe, reduceIte, if_true, if_false, Bool.false_eq_true, tBM, tBM0, rAppend, gSub, rSetL, tNGet, sNPut, tNGet2, tNNew])
section
variable {P : Program} {w : World} {K : PySem.W.Frag} {mg : Str → Option Value} {base : Heap}
/-! _law_word: which refusal it was -/
def sixW : List Str := ["table", "sign", "hand", "saying", "over", "early"]
/-- the six classes of refusals -/
structure Six (K : PySem.W.Frag) (cs : List Addr) : Prop where
  len : cs.length = 6
  nd : cs.Nodup
  ec : ∀ C ∈ cs, ExcC K C
  kk : ∀ C ∈ cs, ∀ D ∈ cs, PySem.W.kitOne K (.ref C) (.ref D) = some (decide (C = D))
  ve : ∀ C ∈ cs, PySem.W.kitOne K (.ref C) (.type "ValueError") = some true
theorem all6 {Pq : Addr → Prop} {C0 C1 C2 C3 C4 C5 : Addr} (h0 : Pq C0) (h1 : Pq C1) (h2 : Pq C2) (h3 : Pq C3) (h4 : Pq C4) (h5 : Pq C5) : ∀ C ∈ [C0, C1, C2, C3, C4, C5], Pq C := fun C hC => by
  simp only [List.mem_cons, List.not_mem_nil, or_false] at hC
  rcases hC with rfl | rfl | rfl | rfl | rfl | rfl <;> assumption
theorem kk_yes {K : PySem.W.Frag} {A : Addr} : PySem.W.kitOne K (.ref A) (.ref A) = some (decide (A = A)) := kit_self.trans (congrArg some (decide_eq_true rfl).symm)
theorem kk_no {K : PySem.W.Frag} {A B : Addr} (n : (Value.ref A == Value.ref B) = false) (hd : PySem.W.hasDictIn K B = true) (ht : PySem.W.typeIn K (.ref B) = some (.type "type")) (h : PySem.W.subIn K (.ref A) (.ref B) = some false) : PySem.W.kitOne K (.ref A) (.ref B) = some (decide (A = B)) := by
  have hne : A ≠ B := fun e => by
    rw [e, beq_self_eq_true] at n
    cases n
  rw [decide_eq_false hne]
  exact kit_sub n hd ht h
def spWordE (cs : List Addr) : Addr → Value → Option Addr → Sp := fun a cls d vs H Q _ => ∃ (i : Nat) (D : Addr) (z : Str), vs = [.ref a] ∧ cls = .ref D ∧ d = none ∧ cs[i]? = some D ∧ sixW[i]? = some z ∧ ∀ H', Le H H' → Q (.str z) H'
abbrev s_law_word : Stmt := top 43
abbrev n_law_word : List Str := ["_law_e", "_law_words", "_law_marks"]
theorem sc_law_word : FnScope ["_law_e", "_law_words", "_law_marks"] ["_law_e"] (defScope s_law_word) := ⟨rfl, rfl, rfl, by decide +kernel, rfl, by decide +kernel, by decide +kernel⟩
theorem ok_law_word {f C0 C1 C2 C3 C4 C5 : Addr} {fd : FuncData} (F : Fun K "_law_word" "_law_word" s_law_word f fd) (T : Bt mg) (bv : mg "ValueError" = none)
    (x_NoTable : ExX K mg "NoTable" C0) (x_NoSign : ExX K mg "NoSign" C1) (x_NoHand : ExX K mg "NoHand" C2) (x_NoSaying : ExX K mg "NoSaying" C3) (x_Over : ExX K mg "Over" C4) (x_NotOver : ExX K mg "NotOver" C5) (S6 : Six K [C0, C1, C2, C3, C4, C5]) :
    FnW P w K mg base 1 f fd ["_law_e"] (withZ (spWordE [C0, C1, C2, C3, C4, C5])) := by
  refine fun_okW F sc_law_word (fun p vs H Q E h => ?_) (fun cdv A outer s H vs Q E p hr h => ?_)
  · obtain ⟨_, _, _, _, i, D, z, rfl, _⟩ := h
    rfl
  · obtain ⟨cls, d, hz, hf, i, D, z, rfl, rfl, rfl, hD, hw, q⟩ := h
    refine ⟨_, (pss_cons (ps_set (i := 1) sc_law_word.nd rfl (Or.inl rfl) (pe_lst (pa_cons pe_str (pa_cons pe_str (pa_cons pe_str (pa_cons pe_str (pa_cons pe_str (pa_cons pe_str pa_nil))))))))
        (pss_cons (ps_set (i := 2) sc_law_word.nd rfl (Or.inl rfl) (pe_lst (pa_cons (pe_callB (call_isW (p := p) List.mem_cons_self hz hf) (by rfl) T.b_isinstance bb_isinstance (pa_cons (pv 0) (pa_cons (pe_cls (by rfl) x_NoTable) pa_nil))) (pa_cons (pe_callB (call_isW (p := p) List.mem_cons_self hz hf) (by rfl) T.b_isinstance bb_isinstance (pa_cons (pv 0) (pa_cons (pe_cls (by rfl) x_NoSign) pa_nil))) (pa_cons (pe_callB (call_isW (p := p) List.mem_cons_self hz hf) (by rfl) T.b_isinstance bb_isinstance (pa_cons (pv 0) (pa_cons (pe_cls (by rfl) x_NoHand) pa_nil))) (pa_cons (pe_callB (call_isW (p := p) List.mem_cons_self hz hf) (by rfl) T.b_isinstance bb_isinstance (pa_cons (pv 0) (pa_cons (pe_cls (by rfl) x_NoSaying) pa_nil))) pa_nil))))))
        (pss_cons (ps_set (i := 2) sc_law_word.nd rfl (Or.inl rfl) (pe_op op_cat (pv 2) (pe_lst (pa_cons (pe_callB (call_isW (p := p) List.mem_cons_self hz hf) (by rfl) T.b_isinstance bb_isinstance (pa_cons (pv 0) (pa_cons (pe_cls (by rfl) x_Over) pa_nil))) (pa_cons (pe_callB (call_isW (p := p) List.mem_cons_self hz hf) (by rfl) T.b_isinstance bb_isinstance (pa_cons (pv 0) (pa_cons (pe_cls (by rfl) x_NotOver) pa_nil))) pa_nil)))))
        (pss_cons (ps_if (PW.pt (pw_or (pt_cmpR op_ne (bmK (K := K) rfl (pe_bm PySem.F.plainAttrs_list PySem.F.slot_list_count PySem.F.type_list_count (countVK (K := K) rfl) (pv 2) (pa_cons pe_bl pa_nil))) pe_int (nomark _)) (pw_or1 (pt_not (pt_val (pe_callB (call_isW (p := p) List.mem_cons_self hz hf) (by rfl) T.b_isinstance bb_isinstance (pa_cons (pv 0) (pa_cons (pe_bltn (v := .ty "ValueError") (by rfl) bv bb_ValueError rfl) pa_nil))))))))
          (pss_one (ps_ret pe_str))
          pss_nil)
        (pss_one (ps_ret (pe_ix (ix_listK (K := K) rfl) (pv 1) (bmK (K := K) rfl (pe_bm PySem.F.plainAttrs_list PySem.F.slot_list_index PySem.F.type_list_index (indexK (K := K) rfl) (pv 2) (pa_cons pe_bl pa_nil))) (fun _ _ => rfl)))))))), ?_⟩
    walk_at "rg"
    have hDm : D ∈ [C0, C1, C2, C3, C4, C5] := List.mem_of_getElem? hD
    have key : ∀ (j : Nat) (C : Addr), [C0, C1, C2, C3, C4, C5][j]? = some C → decide (D = C) = decide (i = j) := fun j C hC =>
      decide_eq_decide.mpr ⟨fun e => nodup_ix S6.nd (e ▸ hD) hC, fun e => by rw [e, hC] at hD; exact (Option.some.inj hD).symm⟩
    have one : ∀ (j : Nat) (C : Addr), [C0, C1, C2, C3, C4, C5][j]? = some C → ∀ (H' : Hp) (R : VK), R (.bl (decide (i = j))) H' → rIsX K (.ref D) none p.1 [.ref p.1, .ref C] H' R := fun j C hC H' R r =>
      ⟨D, rfl, rfl, S6.ec D hDm, .inl ⟨_, _, _, rfl, .own C, (S6.kk D hDm C (List.mem_of_getElem? hC)).trans (congrArg some (key j C hC)), r⟩⟩
    have hi : i < 6 := (List.getElem?_eq_some_iff.mp hD).1
    intro p1 hp1
    refine one 0 C0 rfl _ _ (one 1 C1 rfl _ _ (one 2 C2 rfl _ _ (one 3 C3 rfl _ _ fun p2 hp2 => one 4 C4 rfl _ _ (one 5 C5 rfl _ _ fun p3 hp3 => ?_))))
    have l1 : Le H (L2.upd H p1 (.lst (sixW.map .str))) := .new hp1
    have h1 : (L2.upd H p1 (.lst (sixW.map .str))) p1 = some (.lst (sixW.map .str)) := upd_same
    revert hp2 hp3
    show (L2.upd H p1 (.lst (sixW.map .str))) p2 = none → (L2.upd (L2.upd H p1 (.lst (sixW.map .str))) p2 (.lst [.bl (decide (i = 0)), .bl (decide (i = 1)), .bl (decide (i = 2)), .bl (decide (i = 3))])) p3 = none → rCat (.ref p2) (.ref p3) (L2.upd (L2.upd (L2.upd H p1 (.lst (sixW.map .str))) p2 (.lst [.bl (decide (i = 0)), .bl (decide (i = 1)), .bl (decide (i = 2)), .bl (decide (i = 3))])) p3 (.lst [.bl (decide (i = 4)), .bl (decide (i = 5))])) _
    generalize (L2.upd H p1 (.lst (sixW.map .str))) = H1 at l1 h1 ⊢
    intro hp2 hp3
    have l2 : Le H1 (L2.upd H1 p2 (.lst [.bl (decide (i = 0)), .bl (decide (i = 1)), .bl (decide (i = 2)), .bl (decide (i = 3))])) := .new hp2
    have h2 : (L2.upd H1 p2 (.lst [.bl (decide (i = 0)), .bl (decide (i = 1)), .bl (decide (i = 2)), .bl (decide (i = 3))])) p2 = some (.lst [.bl (decide (i = 0)), .bl (decide (i = 1)), .bl (decide (i = 2)), .bl (decide (i = 3))]) := upd_same
    generalize (L2.upd H1 p2 (.lst [.bl (decide (i = 0)), .bl (decide (i = 1)), .bl (decide (i = 2)), .bl (decide (i = 3))])) = H2 at l2 h2 hp3 ⊢
    refine ⟨p2, p3, _, _, rfl, rfl, (Le.new hp3).lst h2, upd_same, (by show 4 + 2 ≤ sizeLine; decide), fun p4 hp4 => ?_⟩
    have l3 := (Le.new hp3 (o := .lst [.bl (decide (i = 4)), .bl (decide (i = 5))])).trans (.new hp4 (o := .lst ([.bl (decide (i = 0)), .bl (decide (i = 1)), .bl (decide (i = 2)), .bl (decide (i = 3))] ++ [.bl (decide (i = 4)), .bl (decide (i = 5))])))
    have h4 : (L2.upd (L2.upd H2 p3 (.lst [.bl (decide (i = 4)), .bl (decide (i = 5))])) p4 (.lst ([.bl (decide (i = 0)), .bl (decide (i = 1)), .bl (decide (i = 2)), .bl (decide (i = 3))] ++ [.bl (decide (i = 4)), .bl (decide (i = 5))]))) p4 = some (.lst [.bl (decide (i = 0)), .bl (decide (i = 1)), .bl (decide (i = 2)), .bl (decide (i = 3)), .bl (decide (i = 4)), .bl (decide (i = 5))]) := upd_same
    generalize (L2.upd (L2.upd H2 p3 (.lst [.bl (decide (i = 4)), .bl (decide (i = 5))])) p4 (.lst ([.bl (decide (i = 0)), .bl (decide (i = 1)), .bl (decide (i = 2)), .bl (decide (i = 3))] ++ [.bl (decide (i = 4)), .bl (decide (i = 5))]))) = H4 at l3 h4 ⊢
    refine ⟨.inl ⟨rfl, _, .of h4⟩, p4, _, _, rfl, rfl, .of h4, by decide, by rfl, ?_⟩
    have c1 : ([V.bl (decide (i = 0)), .bl (decide (i = 1)), .bl (decide (i = 2)), .bl (decide (i = 3)), .bl (decide (i = 4)), .bl (decide (i = 5))].countP fun z => eqV z (.bl true)) = 1 := by
      rcases (by omega : i = 0 ∨ i = 1 ∨ i = 2 ∨ i = 3 ∨ i = 4 ∨ i = 5) with e | e | e | e | e | e <;> (rw [e]; decide)
    rw [c1]
    refine ⟨by decide, ite2 (fun z => absurd z (by decide)) (fun _ => ⟨D, rfl, rfl, S6.ec D hDm, .inl ⟨_, _, true, rfl, .ty "ValueError", S6.ve D hDm, true, rfl, iteF ⟨.inl ⟨rfl, _, .of h4⟩, p4, _, _, i, .bl true, rfl, rfl, .of h4, by decide, by rfl, ?_, by decide, ?_, p1, _, _, _, rfl, rfl, .of ((l2.trans l3).lst h1), at_of (j := i) (by omega) (by rw [List.getElem?_map, hw]; rfl), q _ (l1.trans (l2.trans l3))⟩⟩⟩)⟩
    · rcases (by omega : i = 0 ∨ i = 1 ∨ i = 2 ∨ i = 3 ∨ i = 4 ∨ i = 5) with e | e | e | e | e | e <;> (rw [e]; rfl)
    · intro m z' hm hz'
      rcases (by omega : i = 0 ∨ i = 1 ∨ i = 2 ∨ i = 3 ∨ i = 4 ∨ i = 5) with e | e | e | e | e | e <;> rcases (by omega : m = 0 ∨ m = 1 ∨ m = 2 ∨ m = 3 ∨ m = 4) with e2 | e2 | e2 | e2 | e2 <;> (subst e e2; first | omega | (have := Option.some.inj hz'; subst this; decide))
/-! _law_asked: what is answered to a question, in a word -/
def spAsked (K : PySem.W.Frag) (P : Program) (w : World) (C P1 P2 : Addr) : Sp := fun vs H Q _ =>
  (∃ (tb : V) (t la : Addr) (n m : Nat) (v3 : V) (xs : List V) (b3 b4 : Bool), vs = [.int 0, tb, .ref t] ∧ H t = some (.tup [.int n, .int m, v3, .ref la]) ∧ 2 ≤ n ∧ n ≤ 10 ∧ m ≤ 2 ∧ SgnB H v3 b3 ∧ SqA K H la xs ∧ xs.length ≤ 100 ∧ LiarsB K H n xs b4 ∧ GxR.TabG H P1 ∧
    ∀ H', Le H H' → (b3 = false → Q (.str "sign") H') ∧ (b3 = true → b4 = false → Q (.str "hand") H') ∧ (b3 = true → b4 = true → Q (.str "done") H')) ∨
  (∃ (x d : Addr) (n m r : Nat) (s : Str) (ls : List Int) (es : List Addr) (lie : Lie) (o : Obj) (kvs : List (V × V)) (out : LiesOut), vs = [.int 1, .ref x, .ref d] ∧ TabL P w C H x n m r s ls es lie ∧ 2 ≤ n ∧ n ≤ 10 ∧ m ≤ 2 ∧ r ≤ m + 1 ∧ GxR.TabG H P1 ∧ GxR.TabG H P2 ∧
    (m < r → ∀ H', Le H H' → Q (.str "over") H') ∧
    (r ≤ m → H d = some (raw d o) ∧ EntsV o kvs ∧ (d == sysModules) = false ∧ LiesB K H n ls [(r : Int) + 1] kvs out ∧ (∀ H', Le H H' → (out = .saying → Q (.str "saying") H') ∧ (out = .sign → Q (.str "sign") H')) ∧
      (out = .good → ∃ lkv, ND P w H d lkv ∧ d ∉ es ∧ (∀ p h, IsP n p → p.length = r + 1 → h ∈ hear n p → valV lkv (kk p h) = (lie p h).map sg) ∧
        ∀ H', LeB (fun a => a = x ∨ a ∈ es) H H' → TabL P w C H' x n m (r + 1) s ls es lie → Q (.str "done") H'))) ∨
  (∃ (x : Addr) (v : V) (n m r : Nat) (s : Str) (ls : List Int) (es : List Addr) (lie : Lie), vs = [.int 2, .ref x, v] ∧ TabL P w C H x n m r s ls es lie ∧ 2 ≤ n ∧ n ≤ 10 ∧ m ≤ 2 ∧ r ≤ m + 1 ∧ WhB K H v 0 ((n : Int) - 1) false ∧ ∀ H', Le H H' → Q (.str "hand") H') ∨
  (∃ (x : Addr) (v : V) (b : Bool) (n m r : Nat) (s : Str) (ls : List Int) (es : List Addr) (lie : Lie), vs = [.int 3, .ref x, v] ∧ TabL P w C H x n m r s ls es lie ∧ 2 ≤ n ∧ n ≤ 10 ∧ m ≤ 2 ∧ r ≤ m + 1 ∧ WhB K H v 0 ((n : Int) - 1) b ∧
    ∀ H', Le H H' → (b = false → Q (.str "hand") H') ∧ (b = true → r ≤ m → Q (.str "early") H') ∧ (b = true → r = m + 1 → (∃ i : Int, v = .int i) → Q (.str "done") H'))
abbrev s_law_asked : Stmt := top 44
abbrev n_law_asked : List Str := ["_law_way", "_law_table_here", "_law_thing", "_law_e"]
theorem sc_law_asked : FnScope ["_law_way", "_law_table_here", "_law_thing", "_law_e"] ["_law_way", "_law_table_here", "_law_thing"] (defScope s_law_asked) := ⟨rfl, rfl, rfl, by decide +kernel, rfl, by decide +kernel, by decide +kernel⟩
theorem ok_law_asked {f C P1 P2 CE C0 C1 C2 C3 C4 C5 f1 f2 f3 f4 f5 : Addr} {fd fd1 fd2 fd3 fd4 fd5 : FuncData} (F : Fun K "_law_asked" "_law_asked" s_law_asked f fd) (T : Bt mg) (TC : TabC K C)
    (mk_Table : Mk K C f1) (fx_Table : FnOk P w K mg base (L2.CX P w) 5 f1 fd1 ["self", "hands", "most", "sign", "liars"] (spInit K P w C P1 C0 C1 C2)) (g_Table : mg "Table" = some (.ref C)) (bd_Table : Binds K fd1 ["self", "hands", "most", "sign", "liars"] [])
    (m_play : MCal P w K mg base (L2.CX P w) 6 C "play" ["self", "lies"] (spPlayT K P w C P1 P2 C4 C3 C1) f2 fd2) (m_told : MCal P w K mg base (L2.CX P w) 4 C "told" ["self", "hand"] (spTold K P w C C2) f3 fd3)
    (m_says : MCal P w K mg base (L2.CX P w) 6 C "says" ["self", "hand"] (spSays K P w C C2 C5) f4 fd4) (cw_law_word : CalW P w K mg base 1 "_law_word" ["_law_e"] (withZ (spWordE [C0, C1, C2, C3, C4, C5])) f5 fd5)
    (x_TableError : ExX K mg "TableError" CE) (em : ∀ D ∈ [C0, C1, C2, C3, C4, C5], PySem.W.exmOne K (.ref D) (.ref CE) = some true) :
    FnOk P w K mg base CX0 7 f fd ["_law_way", "_law_table_here", "_law_thing"] (spAsked K P w C P1 P2) := by
  refine F.ok sc_law_asked (fun vs H Q E h => ?_) (fun cdv A outer s H vs Q E hr h => ?_)
  · rcases h with ⟨_, _, _, _, _, _, _, _, _, rfl, _⟩ | ⟨_, _, _, _, _, _, _, _, _, _, _, _, rfl, _⟩ | ⟨_, _, _, _, _, _, _, _, _, rfl, _⟩ | ⟨_, _, _, _, _, _, _, _, _, _, rfl, _⟩ <;> rfl
  · have hu := hr.units
    refine ⟨_, (pss_cons (ps_try_as (i := 3) rfl rfl sc_law_asked.nd rfl rfl ⟨rfl, by decide, .inl x_TableError.g⟩ takes0 (fun W pn xe tk ow =>
            (pss_one (ps_if (pt_cmpR op_eq (pv 0) pe_int (nomark _))
              (pss_one (ps_expr (pe_makeS mk_Table fx_Table (hr.mono (by omega)) rfl g_Table bd_Table tk (pa_cons (pe_ix (ix_tupK (K := K) rfl) (pv 2) pe_int (fun _ _ => rfl)) (pa_cons (pe_ix (ix_tupK (K := K) rfl) (pv 2) pe_int (fun _ _ => rfl)) (pa_cons (pe_ix (ix_tupK (K := K) rfl) (pv 2) pe_int (fun _ _ => rfl)) (pa_cons (pe_ix (ix_tupK (K := K) rfl) (pv 2) pe_int (fun _ _ => rfl)) pa_nil)))))))
              (pss_one (ps_if (pt_cmpR op_eq (pv 0) pe_int (nomark _))
                  (pss_one (ps_expr (pe_methE (pv 1) TC.cl m_play.me m_play.ok (hr.mono (by omega)) m_play.bd tk (pa_cons (pv 2) pa_nil))))
                  (pss_one (ps_if (pt_cmpR op_eq (pv 0) pe_int (nomark _))
                      (pss_one (ps_expr (pe_methE (pv 1) TC.cl m_told.me m_told.ok (hr.mono (by omega)) m_told.bd tk (pa_cons (pv 2) pa_nil))))
                      (pss_one (ps_expr (pe_methE (pv 1) TC.cl m_says.me m_says.ok (hr.mono (by omega)) m_says.bd tk (pa_cons (pv 2) pa_nil)))))))))))
          (fun a oe cls d pn hz hf =>
            (pss_one (ps_ret (pe_ownWs cw_law_word (L2H.roomH_of (hr.mono (by omega))) hz hf rfl (pa_cons (pv 3) pa_nil))))))
        (pss_one (ps_ret pe_str))), ?_⟩
    have wd : ∀ (i : Nat) (D : Addr) (z : Str) (v0 v1 v2 : Option V) (H' : Hp) (De : Ends), De.rt = Q → [C0, C1, C2, C3, C4, C5][i]? = some D → sixW[i]? = some z → (∀ H'', Le H' H'' → Q (.str z) H'') →
        wAs K (.ref CE) 3 (fun a cls d => tRet (tCall (spWordE [C0, C1, C2, C3, C4, C5] a cls d) [] E0 (tCons (tVar 3) tNil))) (fun _ _ _ _ => False) De (.ref D) none [v0, v1, v2, none] H' := fun i D z v0 v1 v2 H' De hDe hD hz k => by
      refine ⟨true, em D (List.mem_of_getElem? hD), fun _ a ha => ?_, fun z => nomatch z⟩
      walk_at "rg"
      rw [hDe]
      exact ⟨i, D, z, rfl, rfl, rfl, hD, hz, k⟩
    rcases h with ⟨tb, t, la, n, m, v3, xs, b3, b4, rfl, ht, hn, hn2, hm, hs, hla, hxl, hL, hT1, q⟩ | ⟨x, d, n, m, r, s', ls, es, lie, o, kvs, out, rfl, ht, hn, hn2, hm, hr3, hT1, hT2, q0, q1⟩ | ⟨x, v, n, m, r, s', ls, es, lie, rfl, ht, hn, hn2, hm, hr3, hw, q⟩ | ⟨x, v, b, n, m, r, s', ls, es, lie, rfl, ht, hn, hn2, hm, hr3, hw, q⟩
    · walk_at "rg"
      have at4 : ∀ (j : Nat) (v : V), [V.int n, .int m, v3, .ref la][j]? = some v → ∀ (R : VK), R v H → rIxT K (.ref t) (.int (j : Nat)) H R := fun j v hv R r => ⟨t, _, _, v, rfl, rfl, .of ht, at_of (j := j) (by omega) hv, r⟩
      refine at4 0 _ rfl _ (at4 1 _ rfl _ (at4 2 _ rfl _ (at4 3 _ rfl _ fun x dx hx hdx hne => ?_)))
      have l1 : Le H (L2.upd (L2.upd H dx (.own x)) x (.ins C dx [])) := (Le.new hdx).mut hx
      refine ⟨x, dx, la, n, m, v3, xs, b3, b4, rfl, upd_same, hn, hn2, hm, hs.le l1, hla.le l1, hxl, hL.le l1, TabG.le hT1 l1, fun e3 H' l => ?_, fun e3 e4 H' l => ?_, fun e3 e4 H' es s1 ls _ _ _ lB _ _ _ => ⟨rfl, (q H' (LeB.le l1 lB fun b hb => by rw [hb]; exact hx)).2.2 e3 e4⟩⟩
      · exact wd 1 C1 "sign" _ _ _ H' _ rfl rfl rfl fun H'' l2 => (q H'' (l1.trans (l.trans l2))).1 e3
      · exact wd 2 C2 "hand" _ _ _ H' _ rfl rfl rfl fun H'' l2 => (q H'' (l1.trans (l.trans l2))).2.1 e3 e4
    · walk_at "rg"
      obtain ⟨dx, ll, lh, h1, h2, h3⟩ := ht.at_
      refine ⟨dx, _, h1, tf_no_play, x, d, n, m, r, s', ls, es, lie, o, kvs, out, rfl, ht, hn, hn2, hm, hr3, hT1, hT2, fun hmr => ?_, fun hrm => ?_⟩
      · exact wd 4 C4 "over" _ _ _ H _ rfl rfl rfl (q0 hmr)
      · obtain ⟨hd, hev, hsy, hL, qb, qg⟩ := q1 hrm
        refine ⟨hd, hev, hsy, hL, fun H' l => ⟨fun eo => ?_, fun eo => ?_⟩, qg⟩
        · exact wd 3 C3 "saying" _ _ _ H' _ rfl rfl rfl fun H'' l2 => (qb H'' (l.trans l2)).1 eo
        · exact wd 1 C1 "sign" _ _ _ H' _ rfl rfl rfl fun H'' l2 => (qb H'' (l.trans l2)).2 eo
    · walk_at "rg"
      obtain ⟨dx, ll, lh, h1, h2, h3⟩ := ht.at_
      refine ⟨dx, _, h1, tf_no_told, x, v, false, n, m, r, s', ls, es, _, rfl, ht, hn2, hw, fun h => ?_, fun _ => ?_, (fun z => nomatch z)⟩
      · show (earM lie (some s') (h : Int) (upTo n r)).length ≤ 1000
        have h1 := ear_length lie (some s') (h : Int) (upTo n r)
        have h2 := upTo_small (n := n) (k := r) hn2 (by omega)
        omega
      · exact wd 2 C2 "hand" _ _ _ H _ rfl rfl rfl q
    · walk_at "rg"
      obtain ⟨dx, ll, lh, h1, h2, h3⟩ := ht.at_
      refine ⟨dx, _, h1, tf_no_says, x, v, b, n, m, r, s', ls, es, lie, rfl, ht, hn, hn2, hm, hr3, hw, fun eb => ?_, fun eb hrm => ?_, fun eb er i ev _ H' l => (q H' l).2.2 eb er ⟨i, ev⟩⟩
      · exact wd 2 C2 "hand" _ _ _ H _ rfl rfl rfl fun H'' l2 => (q H'' l2).1 eb
      · exact wd 5 C5 "early" _ _ _ H _ rfl rfl rfl fun H'' l2 => (q H'' l2).2.1 eb hrm
end

/-! the readings made plain -/
local macro_rules | `(tactic| walk_at "rd") => `(tactic| simp (config := {decide := true}) only [tSeq, tAsg, gName, tC, tVar, tOp, tUn, rI0, rI, rU, tLst, tTup, tNil, tCons, tCB, tTest, tB, tIfS, tRet, tNext, tDrop, tAnd, tOr, tNot, tAndV, tOrV, tNotV, tIf, tSl, tPart, tNoPart, L2.start, List.map, List.length_cons, List.length_nil, List.replicate, List.set_cons_succ, List.set_cons_zero, List.cons_append, List.nil_append, List.append_nil, List.getElem?_cons_succ, List.getElem?_cons_zero, exists_eq_left', Option.some.injEq, V.int.injEq, V.str.injEq, V.bl.injEq, V.ref.injEq, List.cons.injEq, exists_and_left, exists_eq_left, true_and, and_true, and_self, and_assoc, rIxS, rMulS, rEq, rNe, scal_int, scal_str, scal_bl, CDiv, CMul, Nat.zero_le, true_or, or_true, Nat.zero_add, Nat.reduceAdd, Nat.reduceSub, Int.zero_add, tCall, tYes, wipe, reduceIte, if_true, if_false, Bool.false_eq_true, tBM, tBM0, rAppend, gSub, rSetL, tNGet, sNPut, tNGet2, tNNew])
local macro_rules | `(tactic| walk_at "rg") => `(tactic| simp (config := {decide := true}) only [for_eq, lc_eq, lc2_eq, dc1_eq, dc2_eq, tCallS, tMakeS, tMake, tNClear, tAllL, tAllI, tLenSetT, iNItems, iEnumA, tMethE, tMeth, tFld, sFld, sFldAug, rAdd, iStr, iEnum, iPerm, tChain, tLstRg, tRg1, tRg2, iRng1, iRng2, iList, iTup, iNKeys, List.getElem?_nil, List.length_nil, StX.tStar, rCatT, gTup, gCons, gNil, tSeq, tAsg, gName, tC, tVar, tOp, tUn, rI0, rI, rU, tLst, tTup, tNil, tCons, tCB, tTest, tB, tIfS, tRet, tNext, tDrop, tAnd, tOr, tNot, tAndV, tOrV, tNotV, tIf, tSl, tPart, tNoPart, L2.start, List.map, List.length_cons, List.length_nil, List.replicate, List.set_cons_succ, List.set_cons_zero, List.cons_append, List.nil_append, List.append_nil, List.getElem?_cons_succ, List.getElem?_cons_zero, exists_eq_left', Option.some.injEq, V.int.injEq, V.str.injEq, V.bl.injEq, V.ref.injEq, List.cons.injEq, exists_and_left, exists_eq_left, true_and, and_true, and_self, and_assoc, rIxS, rMulS, rEq, rNe, scal_int, scal_str, scal_bl, CDiv, CMul, Nat.zero_le, true_or, or_true, Nat.zero_add, Nat.reduceAdd, Nat.reduceSub, Int.zero_add, tCall, tYes, wipe, reduceIte, if_true, if_false, Bool.false_eq_true, tBM, tBM0, rAppend, gSub, rSetL, tNGet, sNPut, tNGet2, tNNew])
section
variable {P : Program} {w : World} {K : PySem.W.Frag} {mg : Str → Option Value} {base : Heap}
/-! _law_heard: a pair of a path and a hearer -/
theorem hear_pos {n : Nat} {p : List Int} (hp : IsP n p) (h : p.length + 1 ≤ n) : 1 ≤ (hear n p).length := by
  cases e : hear n p with
  | cons a l => rw [List.length_cons]; omega
  | nil =>
    have hall : ∀ x ∈ (List.range n).map Int.ofNat, x ∈ p := fun x hx => by
      by_cases hxp : x ∈ p
      · exact hxp
      · obtain ⟨i, hi, rfl⟩ := List.mem_map.mp hx
        have hi := List.mem_range.mp hi
        have : (i : Int) ∈ hear n p := mem_hear.mpr ⟨⟨by omega, by omega⟩, hxp⟩
        rw [e] at this
        cases this
    have nd : ((List.range n).map Int.ofNat).Nodup := by
      unfold List.Nodup
      rw [List.pairwise_map]
      exact List.nodup_range.imp fun h e => h (by injection e)
    have h2 := sub_len nd hall
    rw [List.length_map, List.length_range] at h2
    omega
def spHeard (P : Program) (w : World) : Sp := fun vs H Q _ => ∃ (n : Nat) (b : Addr) (p : List Int) (cell : Int), vs = [.ref b, .int n, .int cell] ∧ H b = some (.tup (p.map .int)) ∧ IsP n p ∧ p.length + 1 ≤ n ∧ n ≤ 10 ∧
  ∀ c h H', h ∈ hear n p → Le H H' → H' c = some (.tup [.ref b, .int h]) → Q (.ref c) H'
abbrev s_law_heard : Stmt := top 45
abbrev n_law_heard : List Str := ["_law_path", "_law_hands_here", "_law_cell", "_law_others", "_law_hand"]
theorem sc_law_heard : FnScope ["_law_path", "_law_hands_here", "_law_cell", "_law_others", "_law_hand"] ["_law_path", "_law_hands_here", "_law_cell"] (defScope s_law_heard) := ⟨rfl, rfl, rfl, by decide +kernel, rfl, by decide +kernel, by decide +kernel⟩
theorem ok_law_heard {f : Addr} {fd : FuncData} (F : Fun K "_law_heard" "_law_heard" s_law_heard f fd) (T : Bt mg) : FnOk P w K mg base CX0 1 f fd ["_law_path", "_law_hands_here", "_law_cell"] (spHeard P w) := by
  refine F.ok sc_law_heard (fun vs H Q E h => ?_) (fun cdv A outer s H vs Q E hr h => ?_)
  · obtain ⟨n, b, p, cell, rfl, _⟩ := h
    rfl
  · obtain ⟨n, b, p, cell, rfl, hb, hp, hpl, hn, q⟩ := h
    refine ⟨_, (pss_cons (ps_setLc (i := 3) (own := [("_law_hand", 4)]) (g := gName 4) rfl sc_law_heard.nd rfl rfl (sw_true rfl rfl rfl (by decide +kernel)) (pi_range1 (by rfl) T.b_range (pa_cons (pv 1) pa_nil)) (blkOk_by (N := n_law_heard) (sc := defScope s_law_heard) (own := [("_law_hand", 4)]) (by decide +kernel)) (fun _ _ _ _ _ => (pg_name (i := 4) sc_law_heard.nd rfl (Or.inl rfl))) (fun _ _ _ _ _ => pts_one (pt_cmpR (notIn_seqK (K := K) rfl) (pv 4) (pv 0) rfl)) (fun _ _ _ _ _ => (pv 4)))
        (pss_one (ps_ret (pe_tup (pa_cons (pv 0) (pa_cons (pe_ix (ix_listK (K := K) rfl) (pv 3) (pe_op op_mod (pv 2) (pe_callB (len_seqK (K := K) rfl) (by rfl) T.b_len bb_len (pa_cons (pv 3) pa_nil))) (fun _ _ => rfl)) pa_nil)))))), ?_⟩
    walk_at "rg"
    refine ⟨by omega, by omega, fun D hD => ?_⟩
    refine lc_data walk_range hD (by omega) (fun i : Nat => if (i : Int) ∉ p then some (.num (i : Int)) else none) (fun _ _ => True.intro) (fun i x H' H'' hi l hy Yk Nk kY kN => ?_) (fun H' ys l hys ha => ?_)
    · obtain ⟨rfl, rfl⟩ := hy
      refine ⟨rfl, ?_⟩
      walk_at "rg"
      refine ⟨b, _, rfl, .inr (.of (l.tup hb)), rfl, ints_flat p, ?_⟩
      rw [inV_ints]
      refine ⟨_, rfl, ?_⟩
      by_cases hc : (i : Int) ∈ p
      · rw [decide_eq_true hc]
        exact kN _ (.refl _) (if_neg (fun h => h hc))
      · rw [decide_eq_false hc]
        exact kY _ _ _ (.refl _) (if_pos hc) At.int
    · rw [Int.toNat_natCast, hear_fm] at ha
      rw [ha.ints] at hys
      have h1 := hear_pos hp hpl
      have h10 := hear_length n p
      have e0 := Int.emod_nonneg cell (show ((hear n p).length : Int) ≠ 0 by omega)
      have e1 := Int.emod_lt_of_pos cell (show (0 : Int) < ((hear n p).length : Nat) by omega)
      have hat : (hear n p)[(cell % ((hear n p).length : Nat)).toNat]? = some (hear n p)[(cell % ((hear n p).length : Nat)).toNat]! := by
        rw [List.getElem!_eq_getElem?_getD, List.getElem?_eq_getElem (show (cell % ((hear n p).length : Nat)).toNat < (hear n p).length by omega)]
        rfl
      have hmem := List.mem_of_getElem? hat
      generalize (hear n p)[(cell % ((hear n p).length : Nat)).toNat]! = hv at hat hmem
      refine ⟨D, _, rfl, .inl (.of hys), _, rfl, by rw [List.length_map]; omega, ?_⟩
      rw [List.length_map]
      exact ⟨D, _, _, .int hv, rfl, rfl, .of hys, at_of (j := (cell % ((hear n p).length : Nat)).toNat) (by omega) (by rw [List.getElem?_map, hat]; rfl), fun c hc => q c hv _ hmem (l.trans (.new hc)) upd_same⟩
/-- what is no hand -/
theorem odd_hand {K : PySem.W.Frag} {H : Hp} {n : Nat} {p : Addr} (hp : H p = some (.tup [.int 0])) (z : Int) (h0 : 0 ≤ z) (h7 : z < 7) :
    ∃ v, atI [V.int (-1), .int n, .bl true, .non, .str "0", .int ((n : Int) + 10 ^ Int.toNat 12), .ref p] z = some v ∧ WhB K H v 0 ((n : Int) - 1) false := by
  have big : (0 : Int) < 10 ^ Int.toNat 12 := by decide
  rcases (by omega : z = 0 ∨ z = 1 ∨ z = 2 ∨ z = 3 ∨ z = 4 ∨ z = 5 ∨ z = 6) with e | e | e | e | e | e | e <;> subst e
  · exact ⟨_, rfl, .inl ⟨-1, rfl, by rw [decide_eq_false (by omega)]; rfl⟩⟩
  · exact ⟨_, rfl, .inl ⟨n, rfl, by rw [decide_eq_false (p := (n : Int) ≤ (n : Int) - 1) (by omega), Bool.and_false]⟩⟩
  · exact ⟨_, rfl, .inr (.inl ⟨⟨_, rfl⟩, rfl⟩)⟩
  · exact ⟨_, rfl, .inr (.inr ⟨.inl rfl, rfl⟩)⟩
  · exact ⟨_, rfl, .inr (.inr ⟨.inr (.inl ⟨_, rfl⟩), rfl⟩)⟩
  · refine ⟨_, rfl, .inl ⟨_, rfl, ?_⟩⟩
    rw [decide_eq_false (p := (n : Int) + 10 ^ Int.toNat 12 ≤ (n : Int) - 1) (by omega), Bool.and_false]
  · exact ⟨_, rfl, .inr (.inr ⟨.inr (.inr (.inl ⟨_, _, rfl, hp⟩)), rfl⟩)⟩
/-- what is no sign -/
theorem sgB_no {z : Str} (h : sgB z = false) (hl : z.length ≤ 1000 := by decide +kernel) (H : Hp) : SgnB H (.str z) false := .inl ⟨z, rfl, hl, h.symm⟩
theorem odd_sign {H : Hp} {p : Addr} (hp : H p = some (.lst [.str "a"])) (z : Int) (h0 : 0 ≤ z) (h7 : z < 7) :
    ∃ v, atI [V.str "", .str "abcdefghi", .str "aB", .non, .int 5, .str "a1", .ref p] z = some v ∧ SgnB H v false := by
  rcases (by omega : z = 0 ∨ z = 1 ∨ z = 2 ∨ z = 3 ∨ z = 4 ∨ z = 5 ∨ z = 6) with e | e | e | e | e | e | e <;> subst e
  · exact ⟨_, rfl, sgB_no (by decide +kernel) (by decide +kernel) H⟩
  · exact ⟨_, rfl, sgB_no (by decide +kernel) (by decide +kernel) H⟩
  · exact ⟨_, rfl, sgB_no (by decide +kernel) (by decide +kernel) H⟩
  · exact ⟨_, rfl, .inr ⟨.inl rfl, rfl⟩⟩
  · exact ⟨_, rfl, .inr ⟨.inr (.inl ⟨5, rfl⟩), rfl⟩⟩
  · exact ⟨_, rfl, sgB_no (by decide +kernel) (by decide +kernel) H⟩
  · exact ⟨_, rfl, .inr ⟨.inr (.inr (.inr (.inr ⟨_, _, rfl, hp⟩))), rfl⟩⟩
theorem ne_same {v : V} {A B : Prop} (h : B) : if (!decide (v = v)) = true then A else B := by
  rw [decide_eq_true rfl]
  exact iteF h
def spHandsL (K : PySem.W.Frag) (P : Program) (w : World) (C : Addr) : Sp := fun vs H Q _ => ∃ (x : Addr) (cell : Int) (n m r : Nat) (s : Str) (ls : List Int) (es : List Addr) (lie : Lie), vs = [.ref x, .int n, .int cell, .bl (decide (r = m + 1))] ∧ TabL P w C H x n m r s ls es lie ∧ 2 ≤ n ∧ n ≤ 10 ∧ m ≤ 2 ∧ r ≤ m + 1 ∧
  ∀ H', Le H H' → Q (.bl true) H'
abbrev s_law_hands : Stmt := top 49
abbrev n_law_hands : List Str := ["_law_table_here", "_law_hands_here", "_law_cell", "_law_is_over", "_law_wrong", "_law_due", "_law_way"]
theorem sc_law_hands : FnScope ["_law_table_here", "_law_hands_here", "_law_cell", "_law_is_over", "_law_wrong", "_law_due", "_law_way"] ["_law_table_here", "_law_hands_here", "_law_cell", "_law_is_over"] (defScope s_law_hands) := ⟨rfl, rfl, rfl, by decide +kernel, rfl, by decide +kernel, by decide +kernel⟩
theorem ok_law_hands {f f1 C P1 P2 : Addr} {fd fd1 : FuncData} (F : Fun K "_law_hands" "_law_hands" s_law_hands f fd) (T : Bt mg) (c_law_asked : Cal P w K mg base CX0 7 "_law_asked" ["_law_way", "_law_table_here", "_law_thing"] (spAsked K P w C P1 P2) f1 fd1) :
    FnOk P w K mg base CX0 8 f fd ["_law_table_here", "_law_hands_here", "_law_cell", "_law_is_over"] (spHandsL K P w C) := by
  refine F.ok sc_law_hands (fun vs H Q E h => ?_) (fun cdv A outer s H vs Q E hr h => ?_)
  · obtain ⟨x, cell, n, m, r, s, ls, es, lie, rfl, _⟩ := h
    rfl
  · obtain ⟨x, cell, n, m, r, s', ls, es, lie, rfl, ht, hn, hn2, hm, hr3, q⟩ := h
    refine ⟨_, (pss_cons (ps_set (i := 4) sc_law_hands.nd rfl (Or.inl rfl) (pe_ix (ix_listK (K := K) rfl) (pe_lst (pa_cons (pe_un un_neg pe_int) (pa_cons (pv 1) (pa_cons pe_bl (pa_cons pe_non (pa_cons pe_str (pa_cons (pe_op op_add (pv 1) (pe_op op_pow pe_int pe_int)) (pa_cons (pe_tup (pa_cons pe_int pa_nil)) pa_nil)))))))) (pe_op op_mod (pv 2) pe_int) (fun _ _ => rfl)))
        (pss_cons (ps_set (i := 5) sc_law_hands.nd rfl (Or.inl rfl) (pe_ix (ix_listK (K := K) rfl) (pe_lst (pa_cons pe_str (pa_cons pe_str pa_nil))) (pe_callTy call_int1 (by rfl) T.b_int bb_int (pa_cons (pv 3) pa_nil)) (fun _ _ => rfl)))
        (pss_cons (ps_if (PW.pt (pw_and (pt_cmpR op_eq (pe_op op_mod (pe_op op_fdiv (pv 2) pe_int) pe_int) pe_int (nomark _)) (pw_and1 (pt_cmpR op_ne (pe_own c_law_asked (hr.mono (by omega)) rfl (pa_cons pe_int (pa_cons (pv 0) (pa_cons (pe_op op_mod (pe_op op_fdiv (pv 2) pe_int) (pv 1)) pa_nil)))) (pv 5) (nomark _)))))
          (pss_one (ps_ret pe_bl))
          pss_nil)
        (pss_cons (ps_for PassesOwn.never rfl (pi_listK (K := K) rfl (pe_ix (ix_listK (K := K) rfl) (pe_lst (pa_cons (pe_lst (pa_cons pe_int (pa_cons pe_int pa_nil))) (pa_cons (pe_lst (pa_cons pe_int (pa_cons pe_int pa_nil))) pa_nil))) (pe_op op_mod (pe_op op_fdiv (pv 2) pe_int) pe_int) (fun _ _ => rfl))) (pg_name (i := 6) sc_law_hands.nd rfl (Or.inl rfl))
          (pss_one (ps_if (pt_cmpR op_ne (pe_own c_law_asked (hr.mono (by omega)) rfl (pa_cons (pv 6) (pa_cons (pv 0) (pa_cons (pv 4) pa_nil)))) pe_str (nomark _))
            (pss_one (ps_ret pe_bl))
            pss_nil)))
        (pss_one (ps_ret (pe_cmpR op_eq (pe_own c_law_asked (hr.mono (by omega)) rfl (pa_cons pe_int (pa_cons (pv 0) (pa_cons (pe_op op_mod (pe_op op_fdiv (pv 2) pe_int) (pv 1)) pa_nil)))) (pv 5) (nomark _)))))))), ?_⟩
    walk_at "rg"
    obtain ⟨d, hd, hd1, hd2⟩ : ∃ d : Str, (∀ i : Int, i = (if decide (r = m + 1) = true then 1 else 0) → atI [V.str "early", .str "done"] i = some (.str d)) ∧ (r ≤ m → d = "early") ∧ (r = m + 1 → d = "done") := by
      by_cases e : r = m + 1
      · exact ⟨"done", fun i hi => by rw [hi, decide_eq_true e]; rfl, fun h => by omega, fun _ => rfl⟩
      · exact ⟨"early", fun i hi => by rw [hi, decide_eq_false e]; rfl, fun _ => rfl, fun h => absurd h e⟩
    have hz0 := Int.emod_nonneg (cell / 7) (show ((n : Nat) : Int) ≠ 0 by omega)
    have hz1 := Int.emod_lt_of_pos (cell / 7) (show (0 : Int) < (n : Nat) by omega)
    generalize hzh : cell / 7 % (n : Int) = zh at hz0 hz1 ⊢
    have ask3 : ∀ (H1 : Hp) (R : VK) (X0 : XK), Le H H1 → (∀ H', Le H1 H' → R (.str d) H') → spAsked K P w C P1 P2 [.int 3, .ref x, .int zh] H1 R X0 := fun H1 R X0 l k =>
      .inr (.inr (.inr ⟨x, _, true, n, m, r, s', ls, es, lie, rfl, ht.le l, hn, hn2, hm, hr3, .inl ⟨zh, rfl, by rw [decide_eq_true hz0, decide_eq_true (show zh ≤ (n : Int) - 1 by omega)]; rfl⟩, fun H' l' => ⟨(fun z => nomatch z), fun _ h => hd1 h ▸ k H' l', fun _ h _ => hd2 h ▸ k H' l'⟩⟩))
    refine ⟨⟨by decide, by decide, by decide⟩, fun p hp p1 hp1 => ?_⟩
    have l1 : Le H (L2.upd H p (.tup [.int 0])) := .new hp
    have l2 : Le H (L2.upd (L2.upd H p (.tup [.int 0])) p1 (.lst [.int (-1), .int n, .bl true, .non, .str "0", .int ((n : Int) + 10 ^ Int.toNat 12), .ref p])) := l1.trans (.new hp1)
    obtain ⟨v, hv, hw⟩ := odd_hand (K := K) (n := n) (upd_same (H := H) (a := p) (o := .tup [.int 0])) (cell % 7) (Int.emod_nonneg _ (by decide)) (Int.emod_lt_of_pos _ (by decide))
    have hw := hw.le (Le.new hp1 (o := .lst [.int (-1), .int n, .bl true, .non, .str "0", .int ((n : Int) + 10 ^ Int.toNat 12), .ref p]))
    refine ⟨p1, _, _, v, rfl, rfl, .of upd_same, hv, ?_⟩
    generalize (L2.upd (L2.upd H p (.tup [.int 0])) p1 (.lst [.int (-1), .int n, .bl true, .non, .str "0", .int ((n : Int) + 10 ^ Int.toNat 12), .ref p])) = H2 at l2 hw ⊢
    have askw : ∀ (way : Int) (H1 : Hp) (R : VK) (X0 : XK), way = 2 ∨ way = 3 → Le H2 H1 → (∀ H', Le H1 H' → R (.str "hand") H') → spAsked K P w C P1 P2 [.int way, .ref x, v] H1 R X0 := fun way H1 R X0 hway l k => by
      rcases hway with e | e
      · subst e
        exact .inr (.inr (.inl ⟨x, v, n, m, r, s', ls, es, lie, rfl, ht.le (l2.trans l), hn, hn2, hm, hr3, hw.le l, k⟩))
      · subst e
        exact .inr (.inr (.inr ⟨x, v, false, n, m, r, s', ls, es, lie, rfl, ht.le (l2.trans l), hn, hn2, hm, hr3, hw.le l, fun H' l' => ⟨fun _ => k H' l', (fun z => nomatch z), fun z => nomatch z⟩⟩))
    intro p2 hp2
    have l3 : Le H2 (L2.upd H2 p2 (.lst [.str "early", .str "done"])) := .new hp2
    refine .inr ⟨p2, _, _, .str d, rfl, rfl, .of upd_same, hd _ rfl, ?_⟩
    generalize (L2.upd H2 p2 (.lst [.str "early", .str "done"])) = H3 at l3 ⊢
    refine ite2 (fun _ => ⟨by omega, ask3 _ _ _ (l2.trans l3) fun H4 l4 => ⟨rfl, ne_same ?_⟩⟩) (fun _ => ?_)
    rotate_left
    obtain ⟨H4, l4, e⟩ : ∃ H4, Le H3 H4 ∧ H3 = H4 := ⟨H3, .refl _, rfl⟩
    rw [e]
    all_goals (
      intro q0 hq0 q1 hq1 q2 hq2
      have m1 : Le H4 (L2.upd H4 q0 (.lst [.int 2, .int 3])) := .new hq0
      have m2 := m1.trans (.new hq1 (o := .lst [.int 3, .int 2]))
      have m3 := m2.trans (.new hq2 (o := .lst [.ref q0, .ref q1]))
      have hq0' := ((Le.new hq1 (o := .lst [.int 3, .int 2])).trans (.new hq2 (o := .lst [.ref q0, .ref q1]))).lst (a := q0) (xs := [.int 2, .int 3]) upd_same
      have hq1' := (Le.new hq2 (o := .lst [.ref q0, .ref q1])).lst (a := q1) (xs := [.int 3, .int 2]) upd_same
      obtain ⟨qa, L, ha, hL, hLl, hLm⟩ : ∃ (qa : Addr) (L : List Int), atI [V.ref q0, V.ref q1] (cell / 140 % 2) = some (.ref qa) ∧ (L2.upd (L2.upd (L2.upd H4 q0 (.lst [.int 2, .int 3])) q1 (.lst [.int 3, .int 2])) q2 (.lst [.ref q0, .ref q1])) qa = some (.lst (L.map .int)) ∧ L.length = 2 ∧ ∀ z ∈ L, z = 2 ∨ z = 3 := by
        have z0 := Int.emod_nonneg (cell / 140) (show (2 : Int) ≠ 0 by decide)
        have z1 := Int.emod_lt_of_pos (cell / 140) (show (0 : Int) < 2 by decide)
        rcases (by omega : cell / 140 % 2 = 0 ∨ cell / 140 % 2 = 1) with e | e <;> rw [e]
        · exact ⟨q0, [2, 3], rfl, hq0', rfl, by decide⟩
        · exact ⟨q1, [3, 2], rfl, hq1', rfl, by decide⟩
      refine ⟨q2, _, _, .ref qa, rfl, rfl, .of upd_same, ha, ?_⟩
      generalize (L2.upd (L2.upd (L2.upd H4 q0 (.lst [.int 2, .int 3])) q1 (.lst [.int 3, .int 2])) q2 (.lst [.ref q0, .ref q1])) = H5 at m3 hL ⊢
      have l35 := l4.trans m3
      refine ⟨qa, rfl, ⟨_, .of hL⟩, for_it (n := 2) (walk_listN (by rw [List.length_map, hLl])) (fun i σ H' => ∃ v6 : Option V, σ = [some (.ref x), some (.int n), some (.int cell), some (.bl (decide (r = m + 1))), some v, some (.str d), v6] ∧ Le H5 H') ⟨_, rfl, .refl _⟩ (fun i σ H' _ ⟨_, _, l⟩ => .of (l.lst hL)) ?_ ?_⟩
      · rintro i y σ H6 H7 hi ⟨v6, rfl, l6⟩ ⟨rfl, hy⟩
        rw [List.getElem?_map] at hy
        obtain ⟨way, hway, rfl⟩ := Option.map_eq_some_iff.mp hy
        walk_at "rg"
        refine askw way _ _ _ (hLm _ (List.mem_of_getElem? hway)) (l3.trans (l35.trans l6)) fun H8 l8 => ⟨rfl, ?_⟩
        rw [decide_eq_true rfl]
        exact iteF (l6.trans l8)
      · rintro σ H6 ⟨v6, rfl, l6⟩
        walk_at "rg"
        refine ⟨by omega, ?_⟩
        rw [hzh]
        refine ask3 _ _ _ (l2.trans (l3.trans (l35.trans l6))) fun H8 l8 => ⟨rfl, ?_⟩
        rw [decide_eq_true rfl]
        exact q _ (l2.trans (l3.trans (l35.trans (l6.trans l8)))))
def spMade (K : PySem.W.Frag) (P1 : Addr) : Sp := fun vs H Q _ => ∃ (cell : Int) (n m : Nat) (s : Str), vs = [.int cell, .int n, .int m, .str s] ∧ 2 ≤ n ∧ n ≤ 10 ∧ m ≤ 2 ∧ IsSign s ∧ GxR.TabG H P1 ∧ ∀ H', Le H H' → Q (.bl true) H'
abbrev s_law_made : Stmt := top 48
abbrev n_law_made : List Str := ["_law_cell", "_law_hands_here", "_law_most", "_law_sign", "_law_strange", "_law_hand"]
theorem sc_law_made : FnScope ["_law_cell", "_law_hands_here", "_law_most", "_law_sign", "_law_strange", "_law_hand"] ["_law_cell", "_law_hands_here", "_law_most", "_law_sign"] (defScope s_law_made) := ⟨rfl, rfl, rfl, by decide +kernel, rfl, by decide +kernel, by decide +kernel⟩
theorem ok_law_made {f f1 C P1 P2 : Addr} {fd fd1 : FuncData} (F : Fun K "_law_made" "_law_made" s_law_made f fd) (T : Bt mg) (c_law_asked : Cal P w K mg base CX0 7 "_law_asked" ["_law_way", "_law_table_here", "_law_thing"] (spAsked K P w C P1 P2) f1 fd1) :
    FnOk P w K mg base CX0 8 f fd ["_law_cell", "_law_hands_here", "_law_most", "_law_sign"] (spMade K P1) := by
  refine F.ok sc_law_made (fun vs H Q E h => ?_) (fun cdv A outer s H vs Q E hr h => ?_)
  · obtain ⟨cell, n, m, s, rfl, _⟩ := h
    rfl
  · obtain ⟨cell, n, m, s', rfl, hn, hn2, hm, hsg, hT1, q⟩ := h
    refine ⟨_, (pss_cons (ps_set (i := 4) sc_law_made.nd rfl (Or.inl rfl) (pe_ix (ix_listK (K := K) rfl) (pe_lst (pa_cons pe_str (pa_cons pe_str (pa_cons pe_str (pa_cons pe_non (pa_cons pe_int (pa_cons pe_str (pa_cons (pe_lst (pa_cons pe_str pa_nil)) pa_nil)))))))) (pe_op op_mod (pv 0) pe_int) (fun _ _ => rfl)))
        (pss_cons (ps_set (i := 5) sc_law_made.nd rfl (Or.inl rfl) (pe_ix (ix_listK (K := K) rfl) (pe_lst (pa_cons (pe_un un_neg pe_int) (pa_cons (pv 1) (pa_cons pe_bl (pa_cons pe_non (pa_cons pe_str (pa_cons (pe_op op_add (pv 1) (pe_op op_pow pe_int pe_int)) (pa_cons (pe_tup (pa_cons pe_int pa_nil)) pa_nil)))))))) (pe_op op_mod (pe_op op_fdiv (pv 0) pe_int) pe_int) (fun _ _ => rfl)))
        (pss_cons (ps_if (pt_cmpR op_ne (pe_own c_law_asked (hr.mono (by omega)) rfl (pa_cons pe_int (pa_cons pe_non (pa_cons (pe_tup (pa_cons (pv 1) (pa_cons (pv 2) (pa_cons (pv 4) (pa_cons (pe_lst (pa_cons (pv 5) pa_nil)) pa_nil))))) pa_nil)))) pe_str (nomark _))
          (pss_one (ps_ret pe_bl))
          pss_nil)
        (pss_cons (ps_if (pt_cmpR op_ne (pe_own c_law_asked (hr.mono (by omega)) rfl (pa_cons pe_int (pa_cons pe_non (pa_cons (pe_tup (pa_cons (pv 1) (pa_cons (pv 2) (pa_cons (pv 3) (pa_cons (pe_op op_cat (pe_slice (sl_listK (K := K) rfl) (pe_lst (pa_cons pe_int (pa_cons pe_int pa_nil))) po_none (po_some (pe_op op_mod (pv 0) pe_int))) (pe_lst (pa_cons (pv 5) pa_nil))) pa_nil))))) pa_nil)))) pe_str (nomark _))
          (pss_one (ps_ret pe_bl))
          pss_nil)
        (pss_cons (ps_if (pt_cmpR op_ne (pe_own c_law_asked (hr.mono (by omega)) rfl (pa_cons pe_int (pa_cons pe_non (pa_cons (pe_tup (pa_cons (pv 1) (pa_cons (pv 2) (pa_cons (pv 3) (pa_cons (pe_tup (pa_cons pe_int (pa_cons pe_int (pa_cons pe_int pa_nil)))) pa_nil))))) pa_nil)))) pe_str (nomark _))
          (pss_one (ps_ret pe_bl))
          pss_nil)
        (pss_one (ps_ret (pe_cmpR op_eq (pe_own c_law_asked (hr.mono (by omega)) rfl (pa_cons pe_int (pa_cons pe_non (pa_cons (pe_tup (pa_cons (pv 1) (pa_cons (pv 2) (pa_cons (pv 3) (pa_cons (pe_tup (pa_cons pe_int (pa_cons pe_int pa_nil))) pa_nil))))) pa_nil)))) pe_str (nomark _))))))))), ?_⟩
    walk_at "rg"
    intro p hp p1 hp1
    have l2 : Le H (L2.upd (L2.upd H p (.lst [.str "a"])) p1 (.lst [.str "", .str "abcdefghi", .str "aB", .non, .int 5, .str "a1", .ref p])) := (Le.new hp).trans (.new hp1)
    obtain ⟨st, hst, hsb⟩ := odd_sign (upd_same (H := H) (a := p) (o := .lst [.str "a"])) (cell % 7) (Int.emod_nonneg _ (by decide)) (Int.emod_lt_of_pos _ (by decide))
    have hsb := hsb.le (Le.new hp1 (o := .lst [.str "", .str "abcdefghi", .str "aB", .non, .int 5, .str "a1", .ref p]))
    refine ⟨p1, _, _, st, rfl, rfl, .of upd_same, hst, ⟨by decide, by decide, by decide⟩, ?_⟩
    generalize (L2.upd (L2.upd H p (.lst [.str "a"])) p1 (.lst [.str "", .str "abcdefghi", .str "aB", .non, .int 5, .str "a1", .ref p])) = H2 at l2 hsb ⊢
    intro p2 hp2 p3 hp3
    have l3 : Le H2 (L2.upd (L2.upd H2 p2 (.tup [.int 0])) p3 (.lst [.int (-1), .int n, .bl true, .non, .str "0", .int ((n : Int) + 10 ^ Int.toNat 12), .ref p2])) := (Le.new hp2).trans (.new hp3)
    obtain ⟨v, hv, hw⟩ := odd_hand (K := K) (n := n) (upd_same (H := H2) (a := p2) (o := .tup [.int 0])) (cell / 7 % 7) (Int.emod_nonneg _ (by decide)) (Int.emod_lt_of_pos _ (by decide))
    have hw := hw.le (Le.new hp3 (o := .lst [.int (-1), .int n, .bl true, .non, .str "0", .int ((n : Int) + 10 ^ Int.toNat 12), .ref p2]))
    refine ⟨p3, _, _, v, rfl, rfl, .of upd_same, hv, ?_⟩
    generalize (L2.upd (L2.upd H2 p2 (.tup [.int 0])) p3 (.lst [.int (-1), .int n, .bl true, .non, .str "0", .int ((n : Int) + 10 ^ Int.toNat 12), .ref p2])) = H3 at l3 hw ⊢
    intro p4 hp4 p5 hp5
    have l4 : Le H3 (L2.upd H3 p4 (.lst [v])) := .new hp4
    have l5 := l4.trans (.new hp5 (o := .tup [.int n, .int m, st, .ref p4]))
    refine .inl ⟨.non, p5, p4, n, m, st, [v], false, false, rfl, upd_same, hn, hn2, hm, hsb.le (l3.trans l5), .inl (.of ((Le.new hp5).lst upd_same)), (by show 1 ≤ 100; decide), ⟨[], List.nodup_nil, (fun _ z => nomatch z), .inr ⟨v, [], rfl, .inl (hw.le l5), rfl⟩⟩, TabG.le hT1 (l2.trans (l3.trans l5)), fun H6 l6 => ⟨fun _ => ⟨rfl, ?_⟩, (fun z => nomatch z), fun z => nomatch z⟩⟩
    have l06 := l3.trans (l5.trans l6)
    have l16 := l5.trans l6
    rw [decide_eq_true rfl]
    refine iteF fun q0 hq0 => ⟨q0, _, rfl, .of upd_same, fun q1 hq1 q2 hq2 => ?_⟩
    obtain ⟨ns, hcut, hns, hnd, hin⟩ : ∃ ns : List Int, cutV [V.int 0, V.int 1] none (some (cell % 3)) = ns.map .int ∧ ns.length ≤ 2 ∧ ns.Nodup ∧ ∀ z ∈ ns, 0 ≤ z ∧ z < (n : Int) := by
      have z0 := Int.emod_nonneg cell (show (3 : Int) ≠ 0 by decide)
      have z1 := Int.emod_lt_of_pos cell (show (0 : Int) < 3 by decide)
      rcases (by omega : cell % 3 = 0 ∨ cell % 3 = 1 ∨ cell % 3 = 2) with e | e | e <;> rw [e]
      · exact ⟨[], rfl, by decide, List.nodup_nil, fun _ z => nomatch z⟩
      · exact ⟨[0], rfl, by decide, by decide, fun z hz => by rw [List.mem_singleton.mp hz]; omega⟩
      · exact ⟨[0, 1], rfl, by decide, by decide, fun z hz => by rcases List.mem_cons.mp hz with e | e; (rw [e]; omega); (rw [List.mem_singleton.mp e]; omega)⟩
    rw [hcut] at hq2 ⊢
    have m1 : Le H6 (L2.upd H6 q0 (.lst [.int 0, .int 1])) := .new hq0
    have m2 : Le H6 (L2.upd (L2.upd H6 q0 (.lst [.int 0, .int 1])) q1 (.lst (ns.map .int))) := m1.trans (.new hq1)
    refine ⟨q1, q2, _, _, rfl, rfl, (Le.new hq2).lst upd_same, upd_same, (by rw [List.length_map, sizeLine_eq]; show ns.length + 1 ≤ _; omega), fun q3 hq3 q4 hq4 => ?_⟩
    have m3 := m2.trans (.new hq2 (o := .lst [v]))
    have m4 := m3.trans (.new hq3 (o := .lst (ns.map V.int ++ [v])))
    have m5 := m4.trans (.new hq4 (o := .tup [.int n, .int m, .str s', .ref q3]))
    refine .inl ⟨.non, q4, q3, n, m, .str s', ns.map .int ++ [v], true, false, rfl, upd_same, hn, hn2, hm, .good hsg, .inl (.of ((Le.new hq4).lst upd_same)), (by rw [List.length_append, List.length_map]; show ns.length + 1 ≤ 100; omega), ⟨ns, hnd, hin, .inr ⟨v, [], rfl, .inl (hw.le (l16.trans m5)), rfl⟩⟩, TabG.le hT1 (l2.trans (l06.trans m5)), fun H7 l7 => ⟨(fun z => nomatch z), fun _ _ => ⟨rfl, ?_⟩, fun _ z => nomatch z⟩⟩
    have l07 := l2.trans (l06.trans (m5.trans l7))
    rw [decide_eq_true rfl]
    refine iteF fun r0 hr0 r1 hr1 => ?_
    have k1 : Le H7 (L2.upd H7 r0 (.tup [.int 1, .int 0, .int 1])) := .new hr0
    have k2 := k1.trans (.new hr1 (o := .tup [.int n, .int m, .str s', .ref r0]))
    refine .inl ⟨.non, r1, r0, n, m, .str s', [.int 1, .int 0, .int 1], true, false, rfl, upd_same, hn, hn2, hm, .good hsg, .inr (.of ((Le.new hr1).tup upd_same)), by decide, ⟨[1, 0], by decide, fun z hz => by rcases List.mem_cons.mp hz with e | e; (rw [e]; omega); (rw [List.mem_singleton.mp e]; omega), .inr ⟨.int 1, [], rfl, .inr ⟨1, by decide, rfl⟩, rfl⟩⟩, TabG.le hT1 (l07.trans k2), fun H8 l8 => ⟨(fun z => nomatch z), fun _ _ => ⟨rfl, ?_⟩, fun _ z => nomatch z⟩⟩
    have l08 := l07.trans (k2.trans l8)
    rw [decide_eq_true rfl]
    refine iteF fun t0 ht0 t1 ht1 => ?_
    have j1 : Le H8 (L2.upd H8 t0 (.tup [.int 1, .int 0])) := .new ht0
    have j2 := j1.trans (.new ht1 (o := .tup [.int n, .int m, .str s', .ref t0]))
    refine .inl ⟨.non, t1, t0, n, m, .str s', [.int 1, .int 0], true, true, rfl, upd_same, hn, hn2, hm, .good hsg, .inr (.of ((Le.new ht1).tup upd_same)), by decide, .good (ns := [1, 0]) (by decide) (fun z hz => by rcases List.mem_cons.mp hz with e | e; (rw [e]; omega); (rw [List.mem_singleton.mp e]; omega)), TabG.le hT1 (l08.trans j2), fun H9 l9 => ⟨(fun z => nomatch z), (fun _ z => nomatch z), fun _ _ => ⟨rfl, ?_⟩⟩⟩
    rw [decide_eq_true rfl]
    exact q _ (l08.trans (j2.trans l9))
end

/-! the readings made plain -/
local macro_rules | `(tactic| walk_at "rd") => `(tactic| simp (config := {decide := true}) only [tSeq, tAsg, gName, tC, tVar, tOp, tUn, rI0, rI, rU, tLst, tTup, tNil, tCons, tCB, tTest, tB, tIfS, tRet, tNext, tDrop, tAnd, tOr, tNot, tAndV, tOrV, tNotV, tIf, tSl, tPart, tNoPart, L2.start, List.map, List.length_cons, List.length_nil, List.replicate, List.set_cons_succ, List.set_cons_zero, List.cons_append, List.nil_append, List.append_nil, List.getElem?_cons_succ, List.getElem?_cons_zero, exists_eq_left', Option.some.injEq, V.int.injEq, V.str.injEq, V.bl.injEq, V.ref.injEq, List.cons.injEq, exists_and_left, exists_eq_left, true_and, and_true, and_self, and_assoc, rIxS, rMulS, rEq, rNe, scal_int, scal_str, scal_bl, CDiv, CMul, Nat.zero_le, true_or, or_true, Nat.zero_add, Nat.reduceAdd, Nat.reduceSub, Int.zero_add, tCall, tYes, wipe, reduceIte, if_true, if_false, Bool.false_eq_true, tBM, tBM0, rAppend, gSub, rSetL, tNGet, sNPut, tNGet2, tNNew])
local macro_rules | `(tactic| walk_at "rg") => `(tactic| simp (config := {decide := true}) only [for_eq, lc_eq, lc2_eq, dc1_eq, dc2_eq, tCallS, tMakeS, tMake, tNClear, tAllL, tAllI, tLenSetT, iNItems, iEnumA, tMethE, tMeth, tFld, sFld, sFldAug, rAdd, iStr, iEnum, iPerm, tChain, tLstRg, tRg1, tRg2, iRng1, iRng2, iList, iTup, iNKeys, List.getElem?_nil, List.length_nil, StX.tStar, rCatT, gTup, gCons, gNil, tSeq, tAsg, gName, tC, tVar, tOp, tUn, rI0, rI, rU, tLst, tTup, tNil, tCons, tCB, tTest, tB, tIfS, tRet, tNext, tDrop, tAnd, tOr, tNot, tAndV, tOrV, tNotV, tIf, tSl, tPart, tNoPart, L2.start, List.map, List.length_cons, List.length_nil, List.replicate, List.set_cons_succ, List.set_cons_zero, List.cons_append, List.nil_append, List.append_nil, List.getElem?_cons_succ, List.getElem?_cons_zero, exists_eq_left', Option.some.injEq, V.int.injEq, V.str.injEq, V.bl.injEq, V.ref.injEq, List.cons.injEq, exists_and_left, exists_eq_left, true_and, and_true, and_self, and_assoc, rIxS, rMulS, rEq, rNe, scal_int, scal_str, scal_bl, CDiv, CMul, Nat.zero_le, true_or, or_true, Nat.zero_add, Nat.reduceAdd, Nat.reduceSub, Int.zero_add, tCall, tYes, wipe, reduceIte, if_true, if_false, Bool.false_eq_true, tBM, tBM0, rAppend, gSub, rSetL, tNGet, sNPut, tNGet2, tNNew])
section
variable {P : Program} {w : World} {K : PySem.W.Frag} {mg : Str → Option Value} {base : Heap}
theorem tabG0 {H : Hp} {Pt : Addr} (h : H Pt = some (.tbl #[])) : GxR.TabG H Pt := ⟨#[], h, by simp [TriplesOk]⟩
theorem ints_inj : ∀ {a b : List Int}, a.map V.int = b.map V.int → a = b
  | [], [], _ => rfl
  | [], _ :: _, h => by simp at h
  | _ :: _, [], h => by simp at h
  | x :: a, y :: b, h => by
    rw [List.map_cons, List.map_cons] at h
    injection h with h1 h2
    injection h1 with h1
    rw [h1, ints_inj h2]
/-! _law_wrong_pair: a key that is no saying of a liar -/
def BadD (K : PySem.W.Frag) (n : Nat) (ls rs : List Int) (d : D) : Prop := ∀ (H : Hp) (k : V), At H d k → SayB K H n ls rs k false
structure KeyD (d : D) : Prop where
  dep : d.depth ≤ 8
  ok : okD d = true
  dp : dpD d ≤ 64
  kind : (∃ ks, d = .tup ks) ∨ d = .num 5 ∨ d = .none
theorem okD_pk (p : List Int) : okD (pk p) = true := okDs_ints p
theorem dpD_pk (p : List Int) : dpD (pk p) = 1 := by
  unfold pk
  rw [dpD_tup, dpDs_ints]
theorem okDs_pks (L : List (List Int)) : okDs (L.map pk) = true := okDs_of fun d hd => by
  obtain ⟨p, _, rfl⟩ := List.mem_map.mp hd
  exact okD_pk p
theorem dpDs_pks (L : List (List Int)) : dpDs (L.map pk) ≤ 60 := dpDs_le fun d hd => by
  obtain ⟨p, _, rfl⟩ := List.mem_map.mp hd
  rw [dpD_pk]
  decide
theorem keyD_kk (p : List Int) (h : Int) : KeyD (kk p h) := by
  refine ⟨kk_depth p h, ?_, ?_, .inl ⟨_, rfl⟩⟩
  · unfold kk
    rw [okD_tup, okDs_cons, okDs_cons, okD_pk, okD_num]
    rfl
  · unfold kk
    rw [dpD_tup]
    have : dpDs [pk p, .num h] ≤ 1 := dpDs_le fun d hd => by
      rcases List.mem_cons.mp hd with e | e
      · rw [e, dpD_pk]; exact Nat.le_refl _
      · rw [List.mem_singleton.mp e, dpD_leaf.2.1]; decide
    omega
theorem bad_kk {K : PySem.W.Frag} {n : Nat} {ls rs p : List Int} {h : Int} (hl : p.length ≤ 1000) (e : sayB n ls rs p h = false) : BadD K n ls rs (kk p h) := fun H k a => by
  obtain ⟨c, b, e1, hc, hb⟩ := kk_of a
  exact .inr ⟨c, _, e1, hc, .inr ⟨_, _, rfl, .inr ⟨b, p, rfl, hb, hl, .inl ⟨h, rfl, e.symm⟩⟩⟩⟩
theorem say_inj {K : PySem.W.Frag} {H : Hp} {n : Nat} {ls rs p : List Int} {h : Int} {k : V} {b : Bool} (a : At H (kk p h) k) (s : SayB K H n ls rs k b) : b = sayB n ls rs p h := by
  obtain ⟨c, b', e1, hc, hb⟩ := kk_of a
  rcases s with ⟨pv, _⟩ | ⟨a2, xs, e2, ha2, s⟩
  · rw [e1] at pv
    rcases pv with z | ⟨_, z⟩ | ⟨_, z⟩ | ⟨_, z⟩ <;> cases z
  · rw [e1] at e2
    injection e2 with e2
    subst e2
    rw [hc] at ha2
    have ha2 := Option.some.inj ha2
    injection ha2 with ha2
    subst ha2
    rcases s with ⟨hl, _⟩ | ⟨y, z, e3, s⟩
    · exact absurd rfl hl
    · injection e3 with e3 e4
      injection e4 with e4 _
      subst e3 e4
      rcases s with ⟨pv, _⟩ | ⟨c2, p2, e5, hc2, _, s⟩
      · rcases pv with z | ⟨_, z⟩ | ⟨_, z⟩ | ⟨_, z⟩ <;> cases z
      · injection e5 with e5
        subst e5
        rw [hb] at hc2
        have hc2 := Option.some.inj hc2
        injection hc2 with hc2
        have hc2 : p = p2 := ints_inj hc2
        subst hc2
        rcases s with ⟨h2, e6, e7⟩ | ⟨hw, e7⟩
        · injection e6 with e6
          subst e6
          exact e7
        · rcases hw with ⟨i, e8, e9⟩ | ⟨⟨_, z⟩, _⟩ | ⟨z, _⟩
          · injection e8 with e8
            subst e8
            rw [e7]
            unfold sayB
            rw [← e9, Bool.false_and, Bool.and_false, Bool.and_false]
          · cases z
          · rcases z with z | ⟨_, z⟩ | ⟨_, _, z, _⟩ | ⟨_, _, z, _⟩ <;> cases z
/-- the eleven -/
def oddDs (n : Nat) : List D := [kk [0, 0] 1, kk [0] 0, kk [1] 0, .tup [.text "0", .num 1], kk [0] n, .tup [pk [0], .text "1"], .num 5, pk [0], .tup [pk [0], .num 1, .num 2], .tup [], .none]
theorem odd_pairs (K : PySem.W.Frag) (n : Nat) (ls rs : List Int) : ∀ d ∈ oddDs n, BadD K n ls rs d ∧ KeyD d := by
  intro d hd
  unfold oddDs at hd
  simp only [List.mem_cons, List.not_mem_nil, or_false] at hd
  rcases hd with e | e | e | e | e | e | e | e | e | e | e <;> subst e
  · exact ⟨bad_kk (by decide) (by unfold sayB pathB; rw [decide_eq_false (p := List.Nodup [(0 : Int), 0]) (by decide)]; simp), keyD_kk _ _⟩
  · exact ⟨bad_kk (by decide) (by unfold sayB; rw [decide_eq_false (p := (0 : Int) ∉ [(0 : Int)]) (by decide)]; simp), keyD_kk _ _⟩
  · exact ⟨bad_kk (by decide) (by unfold sayB pathB; rw [decide_eq_false (p := List.head? [(1 : Int)] = some 0) (by decide)]; simp), keyD_kk _ _⟩
  · refine ⟨fun H k a => ?_, ⟨by decide, by decide +kernel, by decide, .inl ⟨_, rfl⟩⟩⟩
    obtain ⟨b, xs, e1, hb, ax⟩ := a.of_tup
    obtain ⟨v, r, e2, av, ar⟩ := ax.of_cons
    obtain ⟨v2, r2, e3, av2, ar2⟩ := ar.of_cons
    obtain rfl := ar2.of_nil
    obtain rfl := av.of_str
    obtain rfl := av2.of_int
    subst e2 e3
    exact .inr ⟨b, _, e1, hb, .inr ⟨_, _, rfl, .inl ⟨.inr (.inr (.inl ⟨_, rfl⟩)), rfl⟩⟩⟩
  · exact ⟨bad_kk (by decide) (by unfold sayB; rw [decide_eq_false (p := (n : Int) ≤ (n : Int) - 1) (by omega)]; simp), keyD_kk _ _⟩
  · refine ⟨fun H k a => ?_, ⟨by decide, by decide +kernel, by decide, .inl ⟨_, rfl⟩⟩⟩
    obtain ⟨b, xs, e1, hb, ax⟩ := a.of_tup
    obtain ⟨v, r, e2, av, ar⟩ := ax.of_cons
    obtain ⟨v2, r2, e3, av2, ar2⟩ := ar.of_cons
    obtain rfl := ar2.of_nil
    obtain ⟨c, rfl, hc⟩ := pk_of av
    obtain rfl := av2.of_str
    subst e2 e3
    exact .inr ⟨b, _, e1, hb, .inr ⟨_, _, rfl, .inr ⟨c, [0], rfl, hc, by decide, .inr ⟨.inr (.inr ⟨.inr (.inl ⟨_, rfl⟩), rfl⟩), rfl⟩⟩⟩⟩
  · exact ⟨fun H k a => .inl ⟨.inr (.inl ⟨5, a.of_int⟩), rfl⟩, ⟨by decide, by decide, by decide, .inr (.inl rfl)⟩⟩
  · refine ⟨fun H k a => ?_, ⟨pk_depth _, okD_pk _, by rw [dpD_pk]; decide, .inl ⟨_, rfl⟩⟩⟩
    obtain ⟨c, e1, hc⟩ := pk_of a
    exact .inr ⟨c, _, e1, hc, .inl ⟨by decide, by decide, rfl⟩⟩
  · refine ⟨fun H k a => ?_, ⟨by decide, by decide, by decide, .inl ⟨_, rfl⟩⟩⟩
    obtain ⟨b, xs, e1, hb, ax⟩ := a.of_tup
    have hl := ax.length
    exact .inr ⟨b, _, e1, hb, .inl ⟨by rw [hl]; decide, by rw [hl]; decide, rfl⟩⟩
  · refine ⟨fun H k a => ?_, ⟨by decide, by decide, by decide, .inl ⟨_, rfl⟩⟩⟩
    obtain ⟨b, xs, e1, hb, ax⟩ := a.of_tup
    have hl := ax.length
    exact .inr ⟨b, _, e1, hb, .inl ⟨by rw [hl]; decide, by rw [hl]; decide, rfl⟩⟩
  · exact ⟨fun H k a => .inl ⟨.inl a.of_non, rfl⟩, ⟨by decide, by decide, by decide, .inr (.inr rfl)⟩⟩
theorem say_len {n : Nat} {ls rs p : List Int} {h : Int} (e : (p.length : Int) ∉ rs) : sayB n ls rs p h = false := by
  unfold sayB pathB
  rw [decide_eq_false e]
  rfl
theorem say_last {n : Nat} {ls rs p : List Int} {h : Int} (e : lastM p ∉ ls) : sayB n ls rs p h = false := by
  unfold sayB
  rw [decide_eq_false e]
  simp
theorem say_on {n : Nat} {ls rs p : List Int} {h : Int} (e : h ∈ p) : sayB n ls rs p h = false := by
  unfold sayB
  rw [decide_eq_false (p := h ∉ p) (fun z => z e)]
  simp
def spWrong (K : PySem.W.Frag) : Sp := fun vs H Q _ => ∃ (cell : Int) (n k : Nat) (la : Addr) (ls : List Int), vs = [.int cell, .int n, .int k, .ref la] ∧ H la = some (.lst (ls.map .int)) ∧ 2 ≤ n ∧ n ≤ 10 ∧ 1 ≤ k ∧ k ≤ 3 ∧
  ∀ d v H', Le H H' → At H' d v → BadD K n ls [(k : Int)] d → KeyD d → Q v H'
abbrev s_law_wrong_pair : Stmt := top 46
abbrev n_law_wrong_pair : List Str := ["_law_cell", "_law_hands_here", "_law_size", "_law_liars_here", "_law_rows", "_law_far", "_law_honest", "_law_lying", "_law_more", "_law_one", "_law_some"]
theorem sc_law_wrong_pair : FnScope ["_law_cell", "_law_hands_here", "_law_size", "_law_liars_here", "_law_rows", "_law_far", "_law_honest", "_law_lying", "_law_more", "_law_one", "_law_some"] ["_law_cell", "_law_hands_here", "_law_size", "_law_liars_here"] (defScope s_law_wrong_pair) := ⟨rfl, rfl, rfl, by decide +kernel, rfl, by decide +kernel, by decide +kernel⟩
theorem ok_law_wrong_pair {f f1 f2 : Addr} {fd fd1 fd2 : FuncData} (F : Fun K "_law_wrong_pair" "_law_wrong_pair" s_law_wrong_pair f fd) (T : Bt mg) (c_law_paths : Cal P w K mg base CX0 1 "_law_paths" ["_law_hands_here", "_law_size"] spPaths f1 fd1)
    (c_law_heard : Cal P w K mg base CX0 1 "_law_heard" ["_law_path", "_law_hands_here", "_law_cell"] (spHeard P w) f2 fd2) : FnOk P w K mg base CX0 2 f fd ["_law_cell", "_law_hands_here", "_law_size", "_law_liars_here"] (spWrong K) := by
  refine F.ok sc_law_wrong_pair (fun vs H Q E h => ?_) (fun cdv A outer s H vs Q E hr h => ?_)
  · obtain ⟨cell, n, k, la, ls, rfl, _⟩ := h
    rfl
  · obtain ⟨cell, n, k, la, ls, rfl, hla, hn, hn2, hk1, hk3, q⟩ := h
    have hu := hr.units
    refine ⟨_, (pss_cons (ps_set (i := 4) sc_law_wrong_pair.nd rfl (Or.inl rfl) (pe_own c_law_paths (hr.mono (by omega)) rfl (pa_cons (pv 1) (pa_cons (pv 2) pa_nil))))
        (pss_cons (ps_set (i := 5) sc_law_wrong_pair.nd rfl (Or.inl rfl) (pe_own c_law_paths (hr.mono (by omega)) rfl (pa_cons (pv 1) (pa_cons (pe_ix (ix_listK (K := K) rfl) (pe_lst (pa_cons pe_int (pa_cons pe_int pa_nil))) (pe_callTy call_int1 (by rfl) T.b_int bb_int (pa_cons (pe_cmpR op_gt (pv 2) pe_int (nomark _)) pa_nil)) (fun _ _ => rfl)) pa_nil))))
        (pss_cons (ps_setLc (i := 6) (own := [("_law_one", 9)]) (g := gName 9) rfl sc_law_wrong_pair.nd rfl rfl (sw_true rfl rfl rfl (by decide +kernel)) (pi_listK (K := K) rfl (pv 4)) (blkOk_by (N := n_law_wrong_pair) (sc := defScope s_law_wrong_pair) (own := [("_law_one", 9)]) (by decide +kernel)) (fun _ _ _ _ _ => (pg_name (i := 9) sc_law_wrong_pair.nd rfl (Or.inl rfl))) (fun _ _ _ _ _ => pts_one (pt_cmpR (notIn_seqK (K := K) rfl) (pe_ix (ix_tupK (K := K) rfl) (pv 9) (pe_un un_neg pe_int) (fun _ _ => rfl)) (pv 3) rfl)) (fun _ _ _ _ _ => (pv 9)))
        (pss_cons (ps_setLc (i := 7) (own := [("_law_one", 9)]) (g := gName 9) rfl sc_law_wrong_pair.nd rfl rfl (sw_true rfl rfl rfl (by decide +kernel)) (pi_listK (K := K) rfl (pv 4)) (blkOk_by (N := n_law_wrong_pair) (sc := defScope s_law_wrong_pair) (own := [("_law_one", 9)]) (by decide +kernel)) (fun _ _ _ _ _ => (pg_name (i := 9) sc_law_wrong_pair.nd rfl (Or.inl rfl))) (fun _ _ _ _ _ => pts_one (pt_cmpR (in_seqK (K := K) rfl) (pe_ix (ix_tupK (K := K) rfl) (pv 9) (pe_un un_neg pe_int) (fun _ _ => rfl)) (pv 3) rfl)) (fun _ _ _ _ _ => (pv 9)))
        (pss_cons (ps_set (i := 8) sc_law_wrong_pair.nd rfl (Or.inl rfl) (pe_op op_fdiv (pv 0) pe_int))
        (pss_join (ps_if (PW.pt (pw_and (pt_cmpR op_eq (pe_op op_mod (pv 0) pe_int) pe_int (nomark _)) (pw_and1 (pt_cmpR (neLK (K := K) rfl hu) (pv 6) (pe_lst pa_nil) (nomark _)))))
          (pss_one (ps_ret (pe_own c_law_heard (hr.mono (by omega)) rfl (pa_cons (pe_ix (ix_listK (K := K) rfl) (pv 6) (pe_op op_mod (pv 8) (pe_callB (len_seqK (K := K) rfl) (by rfl) T.b_len bb_len (pa_cons (pv 6) pa_nil))) (fun _ _ => rfl)) (pa_cons (pv 1) (pa_cons (pe_op op_fdiv (pv 8) pe_int) pa_nil))))))
          pss_nil)
        (pss_join (ps_if (PW.pt (pw_and (pt_cmpR op_eq (pe_op op_mod (pv 0) pe_int) pe_int (nomark _)) (pw_and1 (pt_cmpR (neLK (K := K) rfl hu) (pv 7) (pe_lst pa_nil) (nomark _)))))
          (pss_cons (ps_set (i := 9) sc_law_wrong_pair.nd rfl (Or.inl rfl) (pe_ix (ix_listK (K := K) rfl) (pv 7) (pe_op op_mod (pv 8) (pe_callB (len_seqK (K := K) rfl) (by rfl) T.b_len bb_len (pa_cons (pv 7) pa_nil))) (fun _ _ => rfl)))
            (pss_one (ps_ret (pe_tup (pa_cons (pv 9) (pa_cons (pe_ix (ix_tupK (K := K) rfl) (pv 9) (pe_op op_mod (pe_op op_fdiv (pv 8) pe_int) (pe_callB (len_seqK (K := K) rfl) (by rfl) T.b_len bb_len (pa_cons (pv 9) pa_nil))) (fun _ _ => rfl)) pa_nil))))))
          pss_nil)
        (pss_join (ps_if (PW.pt (pw_and (pt_cmpR op_eq (pe_op op_mod (pv 0) pe_int) pe_int (nomark _)) (pw_and1 (pt_cmpR (neLK (K := K) rfl hu) (pv 5) (pe_lst pa_nil) (nomark _)))))
          (pss_one (ps_ret (pe_own c_law_heard (hr.mono (by omega)) rfl (pa_cons (pe_ix (ix_listK (K := K) rfl) (pv 5) (pe_op op_mod (pv 8) (pe_callB (len_seqK (K := K) rfl) (by rfl) T.b_len bb_len (pa_cons (pv 5) pa_nil))) (fun _ _ => rfl)) (pa_cons (pv 1) (pa_cons (pe_op op_fdiv (pv 8) pe_int) pa_nil))))))
          pss_nil)
        (pss_cons (ps_set (i := 10) sc_law_wrong_pair.nd rfl (Or.inl rfl) (pe_lst (pa_cons (pe_tup (pa_cons (pe_tup (pa_cons pe_int (pa_cons pe_int pa_nil))) (pa_cons pe_int pa_nil))) (pa_cons (pe_tup (pa_cons (pe_tup (pa_cons pe_int pa_nil)) (pa_cons pe_int pa_nil))) (pa_cons (pe_tup (pa_cons (pe_tup (pa_cons pe_int pa_nil)) (pa_cons pe_int pa_nil))) (pa_cons (pe_tup (pa_cons pe_str (pa_cons pe_int pa_nil))) (pa_cons (pe_tup (pa_cons (pe_tup (pa_cons pe_int pa_nil)) (pa_cons (pv 1) pa_nil))) (pa_cons (pe_tup (pa_cons (pe_tup (pa_cons pe_int pa_nil)) (pa_cons pe_str pa_nil))) (pa_cons pe_int (pa_cons (pe_tup (pa_cons pe_int pa_nil)) (pa_cons (pe_tup (pa_cons (pe_tup (pa_cons pe_int pa_nil)) (pa_cons pe_int (pa_cons pe_int pa_nil)))) (pa_cons (pe_tup pa_nil) (pa_cons pe_non pa_nil)))))))))))))
        (pss_one (ps_ret (pe_ix (ix_listK (K := K) rfl) (pv 10) (pe_op op_mod (pv 8) pe_int) (fun _ _ => rfl))))))))))))), ?_⟩
    walk_at "rg"
    refine ⟨n, k, rfl, hn, hn2, hk1, hk3, fun R1 H1 ys1 hR1 l1 hys1 hA1 p hp => ?_⟩
    obtain ⟨k2, hk2, hk21, hk23, hk2n⟩ : ∃ k2 : Nat, (∀ i : Int, i = (if decide ((1 : Int) < k) = true then 1 else 0) → atI [V.int 2, .int 1] i = some (.int (k2 : Nat))) ∧ 1 ≤ k2 ∧ k2 ≤ 3 ∧ k2 ≠ k := by
      by_cases e : 1 < k
      · exact ⟨1, fun i hi => by rw [hi, decide_eq_true (show (1 : Int) < k by omega)]; rfl, by decide, by decide, by omega⟩
      · exact ⟨2, fun i hi => by rw [hi, decide_eq_false (show ¬ (1 : Int) < k by omega)]; rfl, by decide, by decide, by omega⟩
    refine .inr ⟨p, _, _, .int k2, rfl, rfl, .of upd_same, hk2 _ rfl, n, k2, rfl, hn, hn2, hk21, hk23, fun R2 H2 ys2 hR2 l2 hys2 hA2 => ?_⟩
    have l12 : Le H1 H2 := (Le.new hp).trans l2
    have hys12 := l12.lst hys1
    have hA12 := hA1.le l12
    have hy1 := hA1.length
    have hy2 := hA2.length
    rw [List.length_map] at hy1 hy2
    have hpl1 := paths_length (n := n) (k := k) hn2 hk3
    have hpl2 := paths_length (n := n) (k := k2) hn2 hk23
    have l02 := l1.trans l12
    have hla2 := l02.lst hla
    clear hk2
    refine ⟨R1, rfl, ⟨_, .of hys12⟩, fun D3 hD3 => ?_⟩
    have look : ∀ (H' : Hp), Le H2 H' → ∀ (i : Nat) (x : V), ys1[i]? = some x → ∃ b p, x = .ref b ∧ (pathsM n k)[i]? = some p ∧ H' b = some (.tup (p.map .int)) ∧ At H' (pk p) x ∧ IsP n p ∧ p.length = k ∧ k ≤ n - 1 := fun H' l i x hx => by
      obtain ⟨d, hd, hAx⟩ := (hA12.le l).get' hx
      rw [List.getElem?_map] at hd
      obtain ⟨p, hp, rfl⟩ := Option.map_eq_some_iff.mp hd
      obtain ⟨b, rfl, hb⟩ := pk_of hAx
      obtain ⟨h1, h2, h3⟩ := (mem_paths hn hk1).mp (List.mem_of_getElem? hp)
      exact ⟨b, p, rfl, hp, hb, hAx, h1, h2, h3⟩
    refine lc_data (walk_listN rfl) hD3 (by omega) (fun i => (pathsM n k)[i]?.bind fun p => if lastM p ∉ ls then some (pk p) else none) (fun H' l' => .of (l'.lst hys12)) (fun i x H3 H4 hi l3 hy Yk Nk kY kN => ?_) (fun H3 zs3 l3 hzs3 hz3 => ?_)
    · obtain ⟨rfl, hx⟩ := hy
      refine ⟨rfl, ?_⟩
      obtain ⟨b, p, rfl, hp, hb, hAx, hip, hpk, _⟩ := look _ l3 i _ hx
      rw [hp] at kY kN
      walk_at "rg"
      refine ⟨b, _, _, _, rfl, rfl, .of hb, at_lastM hip.pos, la, _, rfl, .inl (.of (l3.lst hla2)), rfl, ints_flat ls, ?_⟩
      rw [inV_ints]
      refine ⟨_, rfl, ?_⟩
      by_cases hc : lastM p ∈ ls
      · rw [decide_eq_true hc]
        exact kN _ (.refl _) (if_neg (fun h => h hc))
      · rw [decide_eq_false hc]
        exact kY _ _ _ (.refl _) (if_pos hc) hAx
    refine ⟨R1, rfl, ⟨_, .of (l3.lst hys12)⟩, fun D4 hD4 => ?_⟩
    refine lc_data (walk_listN rfl) hD4 (by omega) (fun i => (pathsM n k)[i]?.bind fun p => if lastM p ∈ ls then some (pk p) else none) (fun H' l' => .of (l'.lst (l3.lst hys12))) (fun i x H4 H5 hi l4 hy Yk Nk kY kN => ?_) (fun H4 zs4 l4 hzs4 hz4 => ?_)
    · obtain ⟨rfl, hx⟩ := hy
      refine ⟨rfl, ?_⟩
      obtain ⟨b, p, rfl, hp, hb, hAx, hip, hpk, _⟩ := look _ (l3.trans l4) i _ hx
      rw [hp] at kY kN
      walk_at "rg"
      refine ⟨b, _, _, _, rfl, rfl, .of hb, at_lastM hip.pos, la, _, rfl, .inl (.of ((l3.trans l4).lst hla2)), rfl, ints_flat ls, ?_⟩
      rw [inV_ints]
      refine ⟨_, rfl, ?_⟩
      by_cases hc : lastM p ∈ ls
      · rw [decide_eq_true hc]
        exact kY _ _ _ (.refl _) (if_pos hc) hAx
      · rw [decide_eq_false hc]
        exact kN _ (.refl _) (if_neg hc)
    rw [hy1, fm_get (fun p => if lastM p ∉ ls then some (pk p) else none), fm_if (fun p => lastM p ∉ ls) pk] at hz3
    rw [hy1, fm_get (fun p => if lastM p ∈ ls then some (pk p) else none), fm_if (fun p => lastM p ∈ ls) pk] at hz4
    have hh : ∀ p ∈ (pathsM n k).filter (fun p => decide (lastM p ∉ ls)), IsP n p ∧ p.length = k ∧ p.length + 1 ≤ n ∧ lastM p ∉ ls := fun p hp => by
      obtain ⟨h1, h2⟩ := List.mem_filter.mp hp
      obtain ⟨h3, h4, h5⟩ := (mem_paths hn hk1).mp h1
      exact ⟨h3, h4, by omega, of_decide_eq_true h2⟩
    have hy : ∀ p ∈ (pathsM n k).filter (fun p => decide (lastM p ∈ ls)), IsP n p ∧ p.length = k := fun p hp => by
      obtain ⟨h1, h2⟩ := List.mem_filter.mp hp
      obtain ⟨h3, h4, h5⟩ := (mem_paths hn hk1).mp h1
      exact ⟨h3, h4⟩
    have hf : ∀ p ∈ pathsM n k2, IsP n p ∧ p.length = k2 ∧ p.length + 1 ≤ n := fun p hp => by
      obtain ⟨h3, h4, h5⟩ := (mem_paths hn hk21).mp hp
      exact ⟨h3, h4, by omega⟩
    have hhl : ((pathsM n k).filter fun p => decide (lastM p ∉ ls)).length ≤ 100 := Nat.le_trans (List.length_filter_le _ _) hpl1
    have hyl : ((pathsM n k).filter fun p => decide (lastM p ∈ ls)).length ≤ 100 := Nat.le_trans (List.length_filter_le _ _) hpl1
    generalize ((pathsM n k).filter fun p => decide (lastM p ∉ ls)) = hs at hz3 hh hhl
    generalize ((pathsM n k).filter fun p => decide (lastM p ∈ ls)) = ys at hz4 hy hyl
    generalize pathsM n k2 = fs at hA2 hf hy2 hpl2
    have l24 := l3.trans l4
    have hzs3 := l4.lst hzs3
    have hz3 := hz3.le l4
    have hys2 := l24.lst hys2
    have hA2 := hA2.le l24
    have l04 := l02.trans l24
    -- a list of paths: asked for nothing, one of them taken
    have isn : ∀ (L : List (List Int)) (Z : Addr) (zs : List V) (H5 : Hp) (R : VK), L.length ≤ 100 → H5 Z = some (.lst zs) → Ats H5 (L.map pk) zs → ∀ e, H5 e = none → (∀ H', Le H5 H' → R (.bl (!decide (L = []))) H') → rNeL K (.ref Z) (.ref e) (L2.upd H5 e (.lst [])) R := fun L Z zs H5 R hL hZ hA e he k => by
      have l : Le H5 (L2.upd H5 e (.lst [])) := .new he
      refine ⟨Z, e, zs, [], L.map pk, [], rfl, rfl, .of (l.lst hZ), .of upd_same, hA.le l, .nil, okDs_pks L, rfl, dpDs_pks L, Nat.zero_le _, ?_⟩
      have e1 : decide (L.map pk = ([] : List D)) = decide (L = []) := decide_eq_decide.mpr List.map_eq_nil_iff
      rw [e1]
      exact k _ l
    have pick : ∀ (L : List (List Int)) (zs : List V) (H5 : Hp) (z : Int), Ats H5 (L.map pk) zs → L ≠ [] → ∃ b p, (zs.length : Int) = (L.length : Nat) ∧ 0 < (zs.length : Int) ∧ atI zs (z % (zs.length : Nat)) = some (.ref b) ∧ p ∈ L ∧ H5 b = some (.tup (p.map .int)) := fun L zs H5 z hA hne => by
      have hl := hA.length
      rw [List.length_map] at hl
      have hpos : 0 < L.length := List.length_pos_iff.mpr hne
      have e0 := Int.emod_nonneg z (show ((zs.length : Nat) : Int) ≠ 0 by omega)
      have e1 := Int.emod_lt_of_pos z (show (0 : Int) < (zs.length : Nat) by omega)
      have hlt : (z % (zs.length : Nat)).toNat < zs.length := by omega
      obtain ⟨d, hd, hAx⟩ := hA.get' (List.getElem?_eq_getElem hlt)
      rw [List.getElem?_map] at hd
      obtain ⟨p, hp, rfl⟩ := Option.map_eq_some_iff.mp hd
      obtain ⟨b, eb, hb⟩ := pk_of hAx
      exact ⟨b, p, by omega, by omega, at_of (j := (z % (zs.length : Nat)).toNat) (by omega) (by rw [List.getElem?_eq_getElem hlt, eb]), List.mem_of_getElem? hp, hb⟩
    refine ⟨fun σ' H' => σ' = [some (.int cell), some (.int n), some (.int k), some (.ref la), some (.ref R1), some (.ref R2), some (.ref D3), some (.ref D4), some (.int (cell / 4)), none, none] ∧ Le H4 H', ?_, ?_⟩
    · walk_at "rg"
      refine ite2 (fun _ => fun e he => isn hs D3 zs3 H4 _ hhl hzs3 hz3 e he fun H' l => ⟨_, rfl, ?_⟩) (fun _ => .refl _)
      by_cases hne : hs = []
      · rw [decide_eq_true hne]
        exact iteF l
      · rw [decide_eq_false hne]
        obtain ⟨b, p, e1, e2, e3, hp, hb⟩ := pick hs zs3 H' (cell / 4) (hz3.le l) hne
        obtain ⟨h1, h2, h3, h4⟩ := hh p hp
        exact iteT ⟨D3, _, rfl, .inl (.of (l.lst hzs3)), _, rfl, e2, D3, _, _, _, rfl, rfl, .of (l.lst hzs3), e3, n, b, p, _, rfl, hb, h1, h3, hn2, fun c h H'' hhh l2 hc => q _ _ H'' (l04.trans (l.trans l2)) (kk_at hc (l2.tup hb)) (bad_kk (by omega) (say_last h4)) (keyD_kk _ _)⟩
    · rintro σ' H5 ⟨rfl, l5⟩
      refine ⟨fun σ' H' => ∃ v9 : Option V, σ' = [some (.int cell), some (.int n), some (.int k), some (.ref la), some (.ref R1), some (.ref R2), some (.ref D3), some (.ref D4), some (.int (cell / 4)), v9, none] ∧ Le H4 H', ?_, ?_⟩
      · walk_at "rg"
        refine ite2 (fun _ => fun e he => isn ys D4 zs4 H5 _ hyl (l5.lst hzs4) (hz4.le l5) e he fun H' l => ⟨_, rfl, ?_⟩) (fun _ => l5)
        have l4' := l5.trans l
        by_cases hne : ys = []
        · rw [decide_eq_true hne]
          exact iteF l4'
        · rw [decide_eq_false hne]
          obtain ⟨b, p, e1, e2, e3, hp, hb⟩ := pick ys zs4 H' (cell / 4) (hz4.le l4') hne
          obtain ⟨h1, h2⟩ := hy p hp
          have hpos := h1.pos
          have z0 := Int.emod_nonneg (cell / 4 / 97) (show ((p.length : Nat) : Int) ≠ 0 by omega)
          have z1 := Int.emod_lt_of_pos (cell / 4 / 97) (show (0 : Int) < (p.length : Nat) by omega)
          have hat : p[(cell / 4 / 97 % (p.length : Nat)).toNat]? = some p[(cell / 4 / 97 % (p.length : Nat)).toNat]! := by
            rw [List.getElem!_eq_getElem?_getD, List.getElem?_eq_getElem (show (cell / 4 / 97 % (p.length : Nat)).toNat < p.length by omega)]
            rfl
          have hmem := List.mem_of_getElem? hat
          generalize p[(cell / 4 / 97 % (p.length : Nat)).toNat]! = hv at hat hmem
          refine iteT ⟨D4, _, rfl, .inl (.of (l4'.lst hzs4)), _, rfl, e2, D4, _, _, _, rfl, rfl, .of (l4'.lst hzs4), e3, b, _, rfl, .inr (.of hb), _, rfl, by rw [List.length_map]; omega, ?_⟩
          rw [List.length_map]
          refine ⟨b, _, _, .int hv, rfl, rfl, .of hb, at_of (j := (cell / 4 / 97 % (p.length : Nat)).toNat) (by omega) (by rw [List.getElem?_map, hat]; rfl), fun c hc => ?_⟩
          have lc : Le H' (L2.upd H' c (.tup [.ref b, .int hv])) := .new hc
          exact q (kk p hv) _ _ (l04.trans (l4'.trans lc)) (kk_at upd_same (lc.tup hb)) (bad_kk (by omega) (say_on hmem)) (keyD_kk _ _)
      · rintro σ' H6 ⟨v9, rfl, l6⟩
        refine ⟨fun σ' H' => ∃ v9 : Option V, σ' = [some (.int cell), some (.int n), some (.int k), some (.ref la), some (.ref R1), some (.ref R2), some (.ref D3), some (.ref D4), some (.int (cell / 4)), v9, none] ∧ Le H4 H', ?_, ?_⟩
        · walk_at "rg"
          refine ite2 (fun _ => fun e he => isn fs R2 ys2 H6 _ (by omega) (l6.lst hys2) (hA2.le l6) e he fun H' l => ⟨_, rfl, ?_⟩) (fun _ => l6)
          have l4' := l6.trans l
          by_cases hne : fs = []
          · rw [decide_eq_true hne]
            exact iteF l4'
          · rw [decide_eq_false hne]
            obtain ⟨b, p, e1, e2, e3, hp, hb⟩ := pick fs ys2 H' (cell / 4) (hA2.le l4') hne
            obtain ⟨h1, h2, h3⟩ := hf p hp
            exact iteT ⟨R2, _, rfl, .inl (.of (l4'.lst hys2)), _, rfl, e2, R2, _, _, _, rfl, rfl, .of (l4'.lst hys2), e3, n, b, p, _, rfl, hb, h1, h3, hn2, fun c h H'' hhh l2 hc => q _ _ H'' (l04.trans (l4'.trans l2)) (kk_at hc (l2.tup hb)) (bad_kk (by omega) (say_len (by rw [List.mem_singleton]; omega))) (keyD_kk _ _)⟩
        · rintro σ' H7 ⟨v9, rfl, l7⟩
          walk_at "rg"
          intro a1 ha1
          have b1 : Le H7 (L2.upd H7 a1 (.tup [.int 0, .int 0])) := .new ha1
          have t1 : (L2.upd H7 a1 (.tup [.int 0, .int 0])) a1 = some (.tup [.int 0, .int 0]) := upd_same
          generalize (L2.upd H7 a1 (.tup [.int 0, .int 0])) = G1 at b1 t1 ⊢
          intro a2 ha2
          have b2 : Le G1 (L2.upd G1 a2 (.tup [.ref a1, .int 1])) := .new ha2
          have t2 : (L2.upd G1 a2 (.tup [.ref a1, .int 1])) a2 = some (.tup [.ref a1, .int 1]) := upd_same
          have t1 := b2.tup t1
          generalize (L2.upd G1 a2 (.tup [.ref a1, .int 1])) = G2 at b2 t1 t2 ⊢
          intro a3 ha3
          have b3 : Le G2 (L2.upd G2 a3 (.tup [.int 0])) := .new ha3
          have t3 : (L2.upd G2 a3 (.tup [.int 0])) a3 = some (.tup [.int 0]) := upd_same
          have t1 := b3.tup t1
          have t2 := b3.tup t2
          generalize (L2.upd G2 a3 (.tup [.int 0])) = G3 at b3 t1 t2 t3 ⊢
          intro a4 ha4
          have b4 : Le G3 (L2.upd G3 a4 (.tup [.ref a3, .int 0])) := .new ha4
          have t4 : (L2.upd G3 a4 (.tup [.ref a3, .int 0])) a4 = some (.tup [.ref a3, .int 0]) := upd_same
          have t1 := b4.tup t1
          have t2 := b4.tup t2
          have t3 := b4.tup t3
          generalize (L2.upd G3 a4 (.tup [.ref a3, .int 0])) = G4 at b4 t1 t2 t3 t4 ⊢
          intro a5 ha5
          have b5 : Le G4 (L2.upd G4 a5 (.tup [.int 1])) := .new ha5
          have t5 : (L2.upd G4 a5 (.tup [.int 1])) a5 = some (.tup [.int 1]) := upd_same
          have t1 := b5.tup t1
          have t2 := b5.tup t2
          have t3 := b5.tup t3
          have t4 := b5.tup t4
          generalize (L2.upd G4 a5 (.tup [.int 1])) = G5 at b5 t1 t2 t3 t4 t5 ⊢
          intro a6 ha6
          have b6 : Le G5 (L2.upd G5 a6 (.tup [.ref a5, .int 0])) := .new ha6
          have t6 : (L2.upd G5 a6 (.tup [.ref a5, .int 0])) a6 = some (.tup [.ref a5, .int 0]) := upd_same
          have t1 := b6.tup t1
          have t2 := b6.tup t2
          have t3 := b6.tup t3
          have t4 := b6.tup t4
          have t5 := b6.tup t5
          generalize (L2.upd G5 a6 (.tup [.ref a5, .int 0])) = G6 at b6 t1 t2 t3 t4 t5 t6 ⊢
          intro a7 ha7
          have b7 : Le G6 (L2.upd G6 a7 (.tup [.str "0", .int 1])) := .new ha7
          have t7 : (L2.upd G6 a7 (.tup [.str "0", .int 1])) a7 = some (.tup [.str "0", .int 1]) := upd_same
          have t1 := b7.tup t1
          have t2 := b7.tup t2
          have t3 := b7.tup t3
          have t4 := b7.tup t4
          have t5 := b7.tup t5
          have t6 := b7.tup t6
          generalize (L2.upd G6 a7 (.tup [.str "0", .int 1])) = G7 at b7 t1 t2 t3 t4 t5 t6 t7 ⊢
          intro a8 ha8
          have b8 : Le G7 (L2.upd G7 a8 (.tup [.int 0])) := .new ha8
          have t8 : (L2.upd G7 a8 (.tup [.int 0])) a8 = some (.tup [.int 0]) := upd_same
          have t1 := b8.tup t1
          have t2 := b8.tup t2
          have t3 := b8.tup t3
          have t4 := b8.tup t4
          have t5 := b8.tup t5
          have t6 := b8.tup t6
          have t7 := b8.tup t7
          generalize (L2.upd G7 a8 (.tup [.int 0])) = G8 at b8 t1 t2 t3 t4 t5 t6 t7 t8 ⊢
          intro a9 ha9
          have b9 : Le G8 (L2.upd G8 a9 (.tup [.ref a8, .int n])) := .new ha9
          have t9 : (L2.upd G8 a9 (.tup [.ref a8, .int n])) a9 = some (.tup [.ref a8, .int n]) := upd_same
          have t1 := b9.tup t1
          have t2 := b9.tup t2
          have t3 := b9.tup t3
          have t4 := b9.tup t4
          have t5 := b9.tup t5
          have t6 := b9.tup t6
          have t7 := b9.tup t7
          have t8 := b9.tup t8
          generalize (L2.upd G8 a9 (.tup [.ref a8, .int n])) = G9 at b9 t1 t2 t3 t4 t5 t6 t7 t8 t9 ⊢
          intro a10 ha10
          have b10 : Le G9 (L2.upd G9 a10 (.tup [.int 0])) := .new ha10
          have t10 : (L2.upd G9 a10 (.tup [.int 0])) a10 = some (.tup [.int 0]) := upd_same
          have t1 := b10.tup t1
          have t2 := b10.tup t2
          have t3 := b10.tup t3
          have t4 := b10.tup t4
          have t5 := b10.tup t5
          have t6 := b10.tup t6
          have t7 := b10.tup t7
          have t8 := b10.tup t8
          have t9 := b10.tup t9
          generalize (L2.upd G9 a10 (.tup [.int 0])) = G10 at b10 t1 t2 t3 t4 t5 t6 t7 t8 t9 t10 ⊢
          intro a11 ha11
          have b11 : Le G10 (L2.upd G10 a11 (.tup [.ref a10, .str "1"])) := .new ha11
          have t11 : (L2.upd G10 a11 (.tup [.ref a10, .str "1"])) a11 = some (.tup [.ref a10, .str "1"]) := upd_same
          have t1 := b11.tup t1
          have t2 := b11.tup t2
          have t3 := b11.tup t3
          have t4 := b11.tup t4
          have t5 := b11.tup t5
          have t6 := b11.tup t6
          have t7 := b11.tup t7
          have t8 := b11.tup t8
          have t9 := b11.tup t9
          have t10 := b11.tup t10
          generalize (L2.upd G10 a11 (.tup [.ref a10, .str "1"])) = G11 at b11 t1 t2 t3 t4 t5 t6 t7 t8 t9 t10 t11 ⊢
          intro a12 ha12
          have b12 : Le G11 (L2.upd G11 a12 (.tup [.int 0])) := .new ha12
          have t12 : (L2.upd G11 a12 (.tup [.int 0])) a12 = some (.tup [.int 0]) := upd_same
          have t1 := b12.tup t1
          have t2 := b12.tup t2
          have t3 := b12.tup t3
          have t4 := b12.tup t4
          have t5 := b12.tup t5
          have t6 := b12.tup t6
          have t7 := b12.tup t7
          have t8 := b12.tup t8
          have t9 := b12.tup t9
          have t10 := b12.tup t10
          have t11 := b12.tup t11
          generalize (L2.upd G11 a12 (.tup [.int 0])) = G12 at b12 t1 t2 t3 t4 t5 t6 t7 t8 t9 t10 t11 t12 ⊢
          intro a13 ha13
          have b13 : Le G12 (L2.upd G12 a13 (.tup [.int 0])) := .new ha13
          have t13 : (L2.upd G12 a13 (.tup [.int 0])) a13 = some (.tup [.int 0]) := upd_same
          have t1 := b13.tup t1
          have t2 := b13.tup t2
          have t3 := b13.tup t3
          have t4 := b13.tup t4
          have t5 := b13.tup t5
          have t6 := b13.tup t6
          have t7 := b13.tup t7
          have t8 := b13.tup t8
          have t9 := b13.tup t9
          have t10 := b13.tup t10
          have t11 := b13.tup t11
          have t12 := b13.tup t12
          generalize (L2.upd G12 a13 (.tup [.int 0])) = G13 at b13 t1 t2 t3 t4 t5 t6 t7 t8 t9 t10 t11 t12 t13 ⊢
          intro a14 ha14
          have b14 : Le G13 (L2.upd G13 a14 (.tup [.ref a13, .int 1, .int 2])) := .new ha14
          have t14 : (L2.upd G13 a14 (.tup [.ref a13, .int 1, .int 2])) a14 = some (.tup [.ref a13, .int 1, .int 2]) := upd_same
          have t1 := b14.tup t1
          have t2 := b14.tup t2
          have t3 := b14.tup t3
          have t4 := b14.tup t4
          have t5 := b14.tup t5
          have t6 := b14.tup t6
          have t7 := b14.tup t7
          have t8 := b14.tup t8
          have t9 := b14.tup t9
          have t10 := b14.tup t10
          have t11 := b14.tup t11
          have t12 := b14.tup t12
          have t13 := b14.tup t13
          generalize (L2.upd G13 a14 (.tup [.ref a13, .int 1, .int 2])) = G14 at b14 t1 t2 t3 t4 t5 t6 t7 t8 t9 t10 t11 t12 t13 t14 ⊢
          intro a15 ha15
          have b15 : Le G14 (L2.upd G14 a15 (.tup [])) := .new ha15
          have t15 : (L2.upd G14 a15 (.tup [])) a15 = some (.tup []) := upd_same
          have t1 := b15.tup t1
          have t2 := b15.tup t2
          have t3 := b15.tup t3
          have t4 := b15.tup t4
          have t5 := b15.tup t5
          have t6 := b15.tup t6
          have t7 := b15.tup t7
          have t8 := b15.tup t8
          have t9 := b15.tup t9
          have t10 := b15.tup t10
          have t11 := b15.tup t11
          have t12 := b15.tup t12
          have t13 := b15.tup t13
          have t14 := b15.tup t14
          generalize (L2.upd G14 a15 (.tup [])) = G15 at b15 t1 t2 t3 t4 t5 t6 t7 t8 t9 t10 t11 t12 t13 t14 t15 ⊢
          intro a16 ha16
          have b16 : Le G15 (L2.upd G15 a16 (.lst [.ref a2, .ref a4, .ref a6, .ref a7, .ref a9, .ref a11, .int 5, .ref a12, .ref a14, .ref a15, .non])) := .new ha16
          have hA : Ats G15 (oddDs n) [.ref a2, .ref a4, .ref a6, .ref a7, .ref a9, .ref a11, .int 5, .ref a12, .ref a14, .ref a15, .non] := by
            unfold oddDs
            exact .cons (kk_at t2 t1) (.cons (kk_at t4 t3) (.cons (kk_at t6 t5) (.cons (.tup t7 (.cons .str (.cons .int .nil))) (.cons (kk_at t9 t8) (.cons (.tup t11 (.cons (pk_at t10) (.cons .str .nil))) (.cons .int (.cons (pk_at t12) (.cons (.tup t14 (.cons (pk_at t13) (.cons .int (.cons .int .nil)))) (.cons (.tup t15 .nil) (.cons .non .nil))))))))))
          have lall := (((((((((((((((b1.trans b2).trans b3).trans b4).trans b5).trans b6).trans b7).trans b8).trans b9).trans b10).trans b11).trans b12).trans b13).trans b14).trans b15).trans b16)
          have z0 := Int.emod_nonneg (cell / 4) (show (11 : Int) ≠ 0 by decide)
          have z1 := Int.emod_lt_of_pos (cell / 4) (show (0 : Int) < 11 by decide)
          obtain ⟨v, hv, hAv⟩ := hA.get (i := (cell / 4 % 11).toNat) (d := (oddDs n)[(cell / 4 % 11).toNat]'(by show _ < 11; omega)) (List.getElem?_eq_getElem _)
          obtain ⟨g1, g2⟩ := odd_pairs K n ls [(k : Int)] _ (List.getElem_mem (l := oddDs n) (n := (cell / 4 % 11).toNat) (by show _ < 11; omega))
          exact ⟨a16, _, _, v, rfl, rfl, .of upd_same, at_of (j := (cell / 4 % 11).toNat) (by omega) hv, q _ _ _ (l04.trans (l7.trans lall)) (hAv.le b16) g1 g2⟩
end

/-! the readings made plain -/
local macro_rules | `(tactic| walk_at "rd") => `(tactic| simp (config := {decide := true}) only [tSeq, tAsg, gName, tC, tVar, tOp, tUn, rI0, rI, rU, tLst, tTup, tNil, tCons, tCB, tTest, tB, tIfS, tRet, tNext, tDrop, tAnd, tOr, tNot, tAndV, tOrV, tNotV, tIf, tSl, tPart, tNoPart, L2.start, List.map, List.length_cons, List.length_nil, List.replicate, List.set_cons_succ, List.set_cons_zero, List.cons_append, List.nil_append, List.append_nil, List.getElem?_cons_succ, List.getElem?_cons_zero, exists_eq_left', Option.some.injEq, V.int.injEq, V.str.injEq, V.bl.injEq, V.ref.injEq, List.cons.injEq, exists_and_left, exists_eq_left, true_and, and_true, and_self, and_assoc, rIxS, rMulS, rEq, rNe, scal_int, scal_str, scal_bl, CDiv, CMul, Nat.zero_le, true_or, or_true, Nat.zero_add, Nat.reduceAdd, Nat.reduceSub, Int.zero_add, tCall, tYes, wipe, reduceIte, if_true, if_false, Bool.false_eq_true, tBM, tBM0, rAppend, gSub, rSetL, tNGet, sNPut, tNGet2, tNNew])
local macro_rules | `(tactic| walk_at "rg") => `(tactic| simp (config := {decide := true}) only [for_eq, lc_eq, lc2_eq, dc1_eq, dc2_eq, tCallS, tMakeS, tMake, tNClear, tAllL, tAllI, tLenSetT, iNItems, iEnumA, tMethE, tMeth, tFld, sFld, sFldAug, rAdd, iStr, iEnum, iPerm, tChain, tLstRg, tRg1, tRg2, iRng1, iRng2, iList, iTup, iNKeys, List.getElem?_nil, List.length_nil, StX.tStar, rCatT, gTup, gCons, gNil, tSeq, tAsg, gName, tC, tVar, tOp, tUn, rI0, rI, rU, tLst, tTup, tNil, tCons, tCB, tTest, tB, tIfS, tRet, tNext, tDrop, tAnd, tOr, tNot, tAndV, tOrV, tNotV, tIf, tSl, tPart, tNoPart, L2.start, List.map, List.length_cons, List.length_nil, List.replicate, List.set_cons_succ, List.set_cons_zero, List.cons_append, List.nil_append, List.append_nil, List.getElem?_cons_succ, List.getElem?_cons_zero, exists_eq_left', Option.some.injEq, V.int.injEq, V.str.injEq, V.bl.injEq, V.ref.injEq, List.cons.injEq, exists_and_left, exists_eq_left, true_and, and_true, and_self, and_assoc, rIxS, rMulS, rEq, rNe, scal_int, scal_str, scal_bl, CDiv, CMul, Nat.zero_le, true_or, or_true, Nat.zero_add, Nat.reduceAdd, Nat.reduceSub, Int.zero_add, tCall, tYes, wipe, reduceIte, if_true, if_false, Bool.false_eq_true, tBM, tBM0, rAppend, gSub, rSetL, tNGet, sNPut, tNGet2, tNNew])
/-! the hashes of pairs differ -/
def hashK (p : List Int) (h : Int) : Int := reduceHash (Builtin.Tuple.tupleHashOf [hashN p, hashInt h])
def pairsOf (n : Nat) (ps : List (List Int)) : List (List Int × Int) := (ps.map fun p => (hear n p).map fun h => (p, h)).flatten
def allKH : List (List Int × Int) := pairsOf 10 (lvlM 10 0 ++ lvlM 10 1) ++ pairsOf 8 (lvlM 8 2)
theorem allKH_hash : (allKH.map fun e => hashK e.1 e.2).Nodup := by decide +kernel
theorem mem_pairs {n : Nat} {ps : List (List Int)} {p : List Int} {h : Int} (hp : p ∈ ps) (hh : h ∈ hear n p) : (p, h) ∈ pairsOf n ps :=
  List.mem_flatten.mpr ⟨_, List.mem_map.mpr ⟨p, hp, rfl⟩, List.mem_map.mpr ⟨h, hh, rfl⟩⟩
theorem IsP.wider {n k : Nat} {p : List Int} (h : IsP n p) (l : n ≤ k) : IsP k p := ⟨h.hd, h.nd, fun x hx => by have := h.mem x hx; omega⟩
theorem mem_allKH {n : Nat} {p : List Int} {h : Int} (hp : IsP n p) (hh : h ∈ hear n p) (hn : n ≤ 10) (hl : p.length ≤ 2 ∨ (p.length = 3 ∧ n ≤ 8)) : (p, h) ∈ allKH := by
  have hp1 := hp.pos
  have hw : ∀ {k : Nat}, n ≤ k → h ∈ hear k p := fun {k} l => mem_hear.mpr ⟨by have := (mem_hear.mp hh).1; omega, (mem_hear.mp hh).2⟩
  unfold allKH
  rcases hl with hl | ⟨hl, h8⟩
  · refine List.mem_append_left _ (mem_pairs (List.mem_append.mpr ?_) (hw hn))
    rw [mem_lvl (by decide), mem_lvl (by decide)]
    rcases (by omega : p.length = 1 ∨ p.length = 2) with e | e
    · exact .inl ⟨hp.wider hn, e⟩
    · exact .inr ⟨hp.wider hn, e⟩
  · refine List.mem_append_right _ (mem_pairs ?_ (hw h8))
    rw [mem_lvl (by decide)]
    exact ⟨hp.wider h8, hl⟩
theorem nodup_map_inj2 {α β : Type} (f : α → β) : ∀ {l : List α}, (l.map f).Nodup → ∀ {a b : α}, a ∈ l → b ∈ l → f a = f b → a = b
  | [], _, _, _, h, _, _ => nomatch h
  | x :: l, nd, a, b, ha, hb, e => by
    rw [List.map_cons, List.nodup_cons] at nd
    rcases List.mem_cons.mp ha with h1 | h1 <;> rcases List.mem_cons.mp hb with h2 | h2
    · rw [h1, h2]
    · exact absurd (List.mem_map.mpr ⟨b, h2, by rw [← e, h1]⟩) nd.1
    · exact absurd (List.mem_map.mpr ⟨a, h1, by rw [e, h2]⟩) nd.1
    · exact nodup_map_inj2 f nd.2 h1 h2 e
theorem hash_kk (w : World) (p : List Int) (h : Int) : (kk p h).hash w = hashK p h := by
  unfold kk hashK
  rw [NestedKey.hash]
  simp only [NestedKey.hashes]
  unfold pk
  rw [hash_nums, NestedKey.hash]
theorem kk_nodup {w : World} {n m : Nat} {ls : List Int} {kvs : List (D × V)} (nd : (kvs.map (·.1)).Nodup) (hK : LiesK n m ls kvs) (hn : n ≤ 10) (hm : m ≤ 1 ∨ (m = 2 ∧ n ≤ 8)) : (kvs.map fun p => p.1.hash w).Nodup := by
  unfold List.Nodup at nd ⊢
  rw [List.pairwise_map] at nd ⊢
  refine nd.imp_of_mem fun {a b} ha hb hne e => hne ?_
  obtain ⟨p, h, _, ea, hp, hl, _, _, hh, _⟩ := hK a ha
  obtain ⟨q, i, _, eb, hq, hl2, _, _, hi, _⟩ := hK b hb
  rw [ea, eb] at e ⊢
  show kk p h = kk q i
  have e : (kk p h).hash w = (kk q i).hash w := e
  rw [hash_kk, hash_kk] at e
  have m1 := mem_allKH hp hh hn (by omega)
  have m2 := mem_allKH hq hi hn (by omega)
  have := nodup_map_inj2 (fun e : List Int × Int => hashK e.1 e.2) allKH_hash m1 m2 e
  injection this with e1 e2
  rw [e1, e2]
section
variable {P : Program} {w : World} {K : PySem.W.Frag} {mg : Str → Option Value} {base : Heap}
/-! _law_spoilt: lies with something wrong among them -/
def GR (n r : Nat) (ls : List Int) (e : D × V × V) : Prop := ∃ p h o, e.1 = kk p h ∧ e.2.2 = sg o ∧ IsP n p ∧ p.length = r + 1 ∧ lastM p ∈ ls ∧ h ∈ hear n p ∧ ∀ s, o = some s → IsSign s
theorem ins_get {α : Type} (l : List α) (e : α) (i : Nat) (hi : i ≤ l.length) (j : Nat) : (l.take i ++ e :: l.drop i)[j]? = if j < i then l[j]? else if j = i then some e else l[j - 1]? := by
  have hl : (l.take i).length = i := by rw [List.length_take]; omega
  by_cases h1 : j < i
  · rw [if_pos h1, List.getElem?_append_left (by omega), List.getElem?_take_of_lt h1]
  · rw [if_neg h1, List.getElem?_append_right (by omega), hl]
    by_cases h2 : j = i
    · rw [if_pos h2, h2, Nat.sub_self]
      rfl
    · rw [if_neg h2, show j - i = (j - i - 1) + 1 by omega, List.getElem?_cons_succ, List.getElem?_drop, show i + (j - i - 1) = j - 1 by omega]
theorem ins_map {α β : Type} (f : α → β) (l : List α) (e : α) (i : Nat) : (l.take i ++ e :: l.drop i).map f = (l.map f).take i ++ f e :: (l.map f).drop i := by
  rw [List.map_append, List.map_cons, List.map_take, List.map_drop]
theorem ins_nodup {α : Type} {l : List α} {e : α} {i : Nat} (h : l.Nodup) (hn : e ∉ l) : (l.take i ++ e :: l.drop i).Nodup := by
  rw [List.perm_middle.nodup_iff, List.take_append_drop, List.nodup_cons]
  exact ⟨hn, h⟩
theorem say_at {K : PySem.W.Frag} {H : Hp} {n : Nat} {ls rs p : List Int} {h : Int} {k : V} (a : At H (kk p h) k) (hl : p.length ≤ 1000) : SayB K H n ls rs k (sayB n ls rs p h) := by
  obtain ⟨c, b, e1, hc, hb⟩ := kk_of a
  exact .inr ⟨c, _, e1, hc, .inr ⟨_, _, rfl, .inr ⟨b, p, rfl, hb, hl, .inl ⟨h, rfl, rfl⟩⟩⟩⟩
theorem GR.say {n r : Nat} {ls : List Int} {e : D × V × V} (hn2 : n ≤ 10) (g : GR n r ls e) : ∃ p h, e.1 = kk p h ∧ sayB n ls [(r : Int) + 1] p h = true ∧ p.length ≤ 1000 := by
  obtain ⟨p, h, o, e1, _, hp, hl, hls, hh, _⟩ := g
  have := nodup_len n p hp.nd hp.mem
  exact ⟨p, h, e1, sayB_good hp (by rw [List.mem_singleton]; omega) hls hh, by omega⟩
/-- what stands in the rows at the end -/
def FinR (n r : Nat) (ls : List Int) (dw : D) (vb : V) (rws : List (D × V × V)) (due : Str) : Prop := due = "done" ∨ ∃ (i : Nat) (e : D × V × V), (∀ j, j < i → ∀ e', rws[j]? = some e' → GR n r ls e') ∧ rws[i]? = some e ∧
  ((e.1 = dw ∧ due = "saying") ∨ ((∃ p h, e.1 = kk p h ∧ sayB n ls [(r : Int) + 1] p h = true ∧ p.length ≤ 1000) ∧ e.2.2 = vb ∧ due = "sign"))
theorem fin_lies {K : PySem.W.Frag} {H : Hp} {n r : Nat} {ls : List Int} {dw : D} {vb : V} {rws : List (D × V × V)} {due : Str} {evs : List (V × V)} (hn2 : n ≤ 10) (hF : FinR n r ls dw vb rws due) (hd : due ≠ "done") (hB : BadD K n ls [(r : Int) + 1] dw) (hv : vb ≠ .non) (hs : SgnB H vb false)
    (hl : evs.length = rws.length) (hA : ∀ (j : Nat) (k v : V), evs[j]? = some (k, v) → ∃ d k0, rws[j]? = some (d, k0, v) ∧ At H d k) : ∃ out, LiesB K H n ls [(r : Int) + 1] evs out ∧ ((out = .saying ∧ due = "saying") ∨ (out = .sign ∧ due = "sign")) := by
  rcases hF with z | ⟨i, e, hg, he, hc⟩
  · exact absurd z hd
  · have hi : i < evs.length := by
      rw [hl]
      exact (List.getElem?_eq_some_iff.mp he).1
    obtain ⟨d, k0, hd1, hAk⟩ := hA i evs[i].1 evs[i].2 (List.getElem?_eq_getElem hi)
    rw [he] at hd1
    have ee := Option.some.inj hd1
    have good : ∀ (j : Nat) (k v : V), j < i → evs[j]? = some (k, v) → SayB K H n ls [(r : Int) + 1] k true ∧ (v = .non ∨ (v ≠ .non ∧ SgnB H v true)) := fun j k v hj e1 => by
      obtain ⟨d2, k2, hd2, hA2⟩ := hA j k v e1
      have g := hg j hj _ hd2
      obtain ⟨p, h, e3, e4, e5⟩ := g.say hn2
      have e3 : d2 = kk p h := e3
      rw [e3] at hA2
      have s := say_at (K := K) (n := n) (ls := ls) (rs := [(r : Int) + 1]) hA2 e5
      rw [e4] at s
      obtain ⟨_, _, o, _, e6, _, _, _, _, hsg⟩ := g
      have e6 : v = sg o := e6
      refine ⟨s, ?_⟩
      rw [e6]
      cases o with
      | none => exact .inl rfl
      | some x => exact .inr ⟨(fun z => nomatch z), SgnB.good (hsg x rfl)⟩
    rcases hc with ⟨e1, e2⟩ | ⟨⟨p, h, e1, e2, e3⟩, e4, e5⟩
    · refine ⟨.saying, ⟨i, good, .inr ⟨_, _, List.getElem?_eq_getElem hi, .inl ⟨?_, rfl⟩⟩⟩, .inl ⟨rfl, e2⟩⟩
      rw [ee] at e1
      have e1 : d = dw := e1
      rw [e1] at hAk
      exact hB H _ hAk
    · rw [ee] at e1 e4
      have e1 : d = kk p h := e1
      have e4 : evs[i].2 = vb := e4
      rw [e1] at hAk
      have s := say_at (K := K) (n := n) (ls := ls) (rs := [(r : Int) + 1]) hAk e3
      rw [e2] at s
      exact ⟨.sign, ⟨i, good, .inr ⟨_, _, List.getElem?_eq_getElem hi, .inr ⟨s, (by show evs[i].2 ≠ .non; rw [e4]; exact hv), (by show SgnB H evs[i].2 false; rw [e4]; exact hs), rfl⟩⟩⟩, .inr ⟨rfl, e5⟩⟩
/-- signs that are none -/
theorem odd_bad {H : Hp} {p : Addr} (hp : H p = some (.lst [.str "a"])) (z : Int) (h0 : 0 ≤ z) (h7 : z < 7) :
    ∃ v, atI [V.str "", .str "abcdefghi", .str "aB", .int 5, .bl true, .ref p, .str "a b"] z = some v ∧ v ≠ .non ∧ SgnB H v false := by
  rcases (by omega : z = 0 ∨ z = 1 ∨ z = 2 ∨ z = 3 ∨ z = 4 ∨ z = 5 ∨ z = 6) with e | e | e | e | e | e | e <;> subst e
  · exact ⟨_, rfl, (fun z => nomatch z), sgB_no (by decide +kernel) (by decide +kernel) H⟩
  · exact ⟨_, rfl, (fun z => nomatch z), sgB_no (by decide +kernel) (by decide +kernel) H⟩
  · exact ⟨_, rfl, (fun z => nomatch z), sgB_no (by decide +kernel) (by decide +kernel) H⟩
  · exact ⟨_, rfl, (fun z => nomatch z), .inr ⟨.inr (.inl ⟨5, rfl⟩), rfl⟩⟩
  · exact ⟨_, rfl, (fun z => nomatch z), .inr ⟨.inr (.inr (.inl ⟨true, rfl⟩)), rfl⟩⟩
  · exact ⟨_, rfl, (fun z => nomatch z), .inr ⟨.inr (.inr (.inr (.inr ⟨_, _, rfl, hp⟩))), rfl⟩⟩
  · exact ⟨_, rfl, (fun z => nomatch z), sgB_no (by decide +kernel) (by decide +kernel) H⟩
/-- the hashes of 5 and None are no pair's -/
theorem allKH_odd : (allKH.all fun e => decide (hashK e.1 e.2 ≠ hashInt 5) && decide (hashK e.1 e.2 ≠ reduceHash 0xFCA86420)) = true := by decide +kernel
theorem cut_drop (xs : List V) (i : Nat) (h : i ≤ xs.length) : cutV xs (some (i : Int)) none = xs.drop i := by
  unfold cutV
  have e1 : HT.sIx xs.length xs.length none = xs.length := rfl
  have e2 : HT.sIx xs.length 0 (some (i : Int)) = i := by
    unfold HT.sIx
    dsimp only
    rw [if_neg (by omega)]
    omega
  rw [e1, e2]
  exact List.take_of_length_le (by rw [List.length_drop]; omega)
theorem paired_take {α β : Type} {R : α → β → Prop} {xs : List α} {ys : List β} (h : Paired R xs ys) : ∀ i, Paired R (xs.take i) (ys.take i) := by
  induction h with
  | nil => intro i; simp; exact .nil
  | cons r _ ih =>
    intro i
    cases i with
    | zero => exact .nil
    | succ i => exact .cons r (ih i)
theorem paired_drop {α β : Type} {R : α → β → Prop} {xs : List α} {ys : List β} (h : Paired R xs ys) : ∀ i, Paired R (xs.drop i) (ys.drop i) := by
  induction h with
  | nil => intro i; simp; exact .nil
  | cons r t ih =>
    intro i
    cases i with
    | zero => exact .cons r t
    | succ i => exact ih i
theorem paired_app {α β : Type} {R : α → β → Prop} {xs xs2 : List α} {ys ys2 : List β} (h : Paired R xs ys) (h2 : Paired R xs2 ys2) : Paired R (xs ++ xs2) (ys ++ ys2) := by
  induction h with
  | nil => exact h2
  | cons r t ih => exact .cons r ih
theorem paired_set {α β : Type} {R : α → β → Prop} {xs : List α} {ys : List β} (h : Paired R xs ys) : ∀ (i : Nat) {x : α} {y : β}, R x y → Paired R (xs.set i x) (ys.set i y) := by
  induction h with
  | nil => intro i x y _; exact .nil
  | cons r t ih =>
    intro i x y q
    cases i with
    | zero => exact .cons q t
    | succ i => exact .cons r (ih i q)
def spSpoilt (K : PySem.W.Frag) (P : Program) (w : World) : Sp := fun vs H Q _ => ∃ (d : Addr) (cell : Int) (k : V) (kvs : List (D × V)) (n m r : Nat) (ls : List Int) (dw : D), vs = [.ref d, .int cell, k] ∧ ND P w H d kvs ∧ LiesK n m ls kvs ∧ (∀ p h v, (kk p h, v) ∈ kvs → p.length = r + 1) ∧ 2 ≤ n ∧ n ≤ 10 ∧ (m ≤ 1 ∨ (m = 2 ∧ n ≤ 8)) ∧ kvs.length ≤ 990 ∧
  At H dw k ∧ BadD K n ls [(r : Int) + 1] dw ∧ KeyD dw ∧
  ∀ (c D' : Addr) (due : Str) (H' : Hp), Le H H' → H' c = some (.tup [.ref D', .str due]) → (due = "done" ∨ ∃ o evs out, H' D' = some (raw D' o) ∧ EntsV o evs ∧ (D' == sysModules) = false ∧ LiesB K H' n ls [(r : Int) + 1] evs out ∧ ((out = .saying ∧ due = "saying") ∨ (out = .sign ∧ due = "sign"))) → Q (.ref c) H'
abbrev s_law_spoilt : Stmt := top 47
abbrev n_law_spoilt : List Str := ["_law_lies_here", "_law_cell", "_law_wrong", "_law_rows", "_law_place", "_law_bad", "_law_due", "_law_at", "_law_pair"]
theorem sc_law_spoilt : FnScope ["_law_lies_here", "_law_cell", "_law_wrong", "_law_rows", "_law_place", "_law_bad", "_law_due", "_law_at", "_law_pair"] ["_law_lies_here", "_law_cell", "_law_wrong"] (defScope s_law_spoilt) := ⟨rfl, rfl, rfl, by decide +kernel, rfl, by decide +kernel, by decide +kernel⟩
theorem ok_law_spoilt {f : Addr} {fd : FuncData} (F : Fun K "_law_spoilt" "_law_spoilt" s_law_spoilt f fd) (T : Bt mg) : FnOk P w K mg base CX0 1 f fd ["_law_lies_here", "_law_cell", "_law_wrong"] (spSpoilt K P w) := by
  refine F.ok sc_law_spoilt (fun vs H Q E h => ?_) (fun cdv A outer s H vs Q E hr h => ?_)
  · obtain ⟨d, cell, k, kvs, n, m, r, ls, dw, rfl, _⟩ := h
    rfl
  · obtain ⟨d, cell, k, kvs, n, m, r, ls, dw, rfl, hN, hK, hsz, hn, hn2, hmn, hkl, hAw, hB, hKd, q⟩ := h
    have hu := hr.units
    refine ⟨_, (pss_cons (ps_setLc (i := 3) (own := [("_law_pair", 8)]) (g := gName 8) rfl sc_law_spoilt.nd rfl rfl (sw_true rfl rfl rfl (by decide +kernel)) (pi_listK (K := K) rfl (pe_callTy (call_listN rfl) (by rfl) T.b_list bb_list (pa_cons (pv 0) pa_nil))) (blkOk_by (N := n_law_spoilt) (sc := defScope s_law_spoilt) (own := [("_law_pair", 8)]) (by decide +kernel)) (fun _ _ _ _ _ => (pg_name (i := 8) sc_law_spoilt.nd rfl (Or.inl rfl))) (fun _ _ _ _ _ => pts_nil) (fun _ _ _ _ _ => (pe_tup (pa_cons (pv 8) (pa_cons (pe_ngetK (P := P) (w := w) rfl rfl hu (pv 0) (pv 8) (fun _ _ => rfl)) pa_nil)))))
        (pss_cons (ps_set (i := 4) sc_law_spoilt.nd rfl (Or.inl rfl) (pe_op op_mod (pv 1) (pe_op op_add (pe_callB (len_seqK (K := K) rfl) (by rfl) T.b_len bb_len (pa_cons (pv 3) pa_nil)) pe_int)))
        (pss_cons (ps_set (i := 5) sc_law_spoilt.nd rfl (Or.inl rfl) (pe_ix (ix_listK (K := K) rfl) (pe_lst (pa_cons pe_str (pa_cons pe_str (pa_cons pe_str (pa_cons pe_int (pa_cons pe_bl (pa_cons (pe_lst (pa_cons pe_str pa_nil)) (pa_cons pe_str pa_nil)))))))) (pe_op op_mod (pe_op op_fdiv (pv 1) pe_int) pe_int) (fun _ _ => rfl)))
        (pss_cons (ps_set (i := 6) sc_law_spoilt.nd rfl (Or.inl rfl) pe_str)
        (pss_join (ps_if (pt_cmpR op_ne (pe_op op_mod (pe_op op_fdiv (pv 1) pe_int) pe_int) pe_int (nomark _))
          (pss_cons (ps_set (i := 3) sc_law_spoilt.nd rfl (Or.inl rfl) (pe_op op_cat (pe_op op_cat (pe_slice (sl_listK (K := K) rfl) (pv 3) po_none (po_some (pv 4))) (pe_lst (pa_cons (pe_tup (pa_cons (pv 2) (pa_cons (pe_ix (ix_listK (K := K) rfl) (pe_lst (pa_cons pe_non (pa_cons pe_str (pa_cons (pv 5) pa_nil)))) (pe_op op_mod (pe_op op_fdiv (pv 1) pe_int) pe_int) (fun _ _ => rfl)) pa_nil))) pa_nil))) (pe_slice (sl_listK (K := K) rfl) (pv 3) (po_some (pv 4)) po_none)))
            (pss_one (ps_set (i := 6) sc_law_spoilt.nd rfl (Or.inl rfl) pe_str)))
          pss_nil)
        (pss_join (ps_if (PW.pt (pw_and (pt_cmpR op_gt (pe_op op_mod (pe_op op_fdiv (pv 1) pe_int) pe_int) pe_int (nomark _)) (pw_and1 (pt_cmpR op_gt (pe_callB call_lenN (by rfl) T.b_len bb_len (pa_cons (pv 0) pa_nil)) pe_int (nomark _)))))
          (pss_cons (ps_set (i := 7) sc_law_spoilt.nd rfl (Or.inl rfl) (pe_op op_mod (pe_op op_fdiv (pv 1) pe_int) (pe_callB (len_seqK (K := K) rfl) (by rfl) T.b_len bb_len (pa_cons (pv 3) pa_nil))))
            (pss_one (ps_if (pt_cmpR (op_neT hu) (pe_ix (ix_tupK (K := K) rfl) (pe_ix (ix_listK (K := K) rfl) (pv 3) (pv 7) (fun _ _ => rfl)) pe_int (fun _ _ => rfl)) (pv 2) (nomark _))
              (pss_cons (ps_set (i := 6) sc_law_spoilt.nd rfl (Or.inl rfl) (pe_ix (ix_listK (K := K) rfl) (pe_lst (pa_cons pe_str (pa_cons (pv 6) pa_nil))) (pe_callTy call_int1 (by rfl) T.b_int bb_int (pa_cons (pe_and (pe_cmpR op_eq (pv 6) pe_str (nomark _)) (pe_one (pe_cmpR op_lt (pv 4) (pv 7) (nomark _)))) pa_nil)) (fun _ _ => rfl)))
                (pss_one (ps_asg (pe_tup (pa_cons (pe_ix (ix_tupK (K := K) rfl) (pe_ix (ix_listK (K := K) rfl) (pv 3) (pv 7) (fun _ _ => rfl)) pe_int (fun _ _ => rfl)) (pa_cons (pv 5) pa_nil))) (pg_sub (pv 3) (pv 7) set_list))))
              pss_nil)))
          pss_nil)
        (pss_one (ps_ret (pe_tup (pa_cons (pe_callTy (dictRK (K := K) (w := w) rfl rfl rfl hu) (by rfl) T.b_dict bb_dict (pa_cons (pv 3) pa_nil)) (pa_cons (pv 6) pa_nil))))))))))), ?_⟩
    walk_at "rg"
    have hnd := hN.nodup
    obtain ⟨hsy, o0, ho0, hI0⟩ := id hN
    obtain ⟨ks, hks, hkA⟩ := keys_ND hI0
    have hkn := hkA.length
    rw [List.length_map] at hkn
    refine ⟨d, o0, ks, rfl, ho0, hks, hsy, by rw [sizeLine_eq]; omega, fun l0 hl0 => ?_⟩
    have l1 : Le H (L2.upd H l0 (.lst ks)) := .new hl0
    have e1 : (L2.upd H l0 (.lst ks)) l0 = some (.lst ks) := upd_same
    generalize (L2.upd H l0 (.lst ks)) = H1 at l1 e1 ⊢
    refine ⟨l0, rfl, ⟨_, .of e1⟩, fun Dl hD => ?_⟩
    obtain ⟨M0, hM0⟩ : ∃ M : Nat → Hp → Prop, ∀ i H', M i H' ↔ Le H1 H' ∧ ∃ (ps : List Addr) (rws : List (D × V × V)), H' Dl = some (.lst (ps.map V.ref)) ∧ Rows H' ps rws ∧ rws.map (fun e => (e.1, e.2.2)) = kvs.take i := ⟨_, fun _ _ => Iff.rfl⟩
    refine lc_it (walk_listN (n := kvs.length) hkn) M0 ((hM0 _ _).mpr ⟨.new hD, [], [], upd_same, .nil, rfl⟩) (fun i H' _ hI => .of (((hM0 _ _).mp hI).1.lst e1)) (fun i y H2 H3 hi hI hy => ?_) (fun H2 hI => ?_)
    · obtain ⟨l2, ps, rws, hps, hR, hm⟩ := (hM0 _ _).mp hI
      obtain ⟨rfl, hx⟩ := hy
      refine ⟨rfl, ?_⟩
      obtain ⟨dk, hdk, hAx⟩ := ((hkA.le l1).le l2).get' hx
      rw [List.getElem?_map] at hdk
      obtain ⟨⟨dk', v⟩, hkv, rfl⟩ := Option.map_eq_some_iff.mp hdk
      obtain ⟨p, h, o, ee, _⟩ := hK _ (List.mem_of_getElem? hkv)
      injection ee with e2 e3
      subst e2 e3
      obtain ⟨c, b, rfl, hc, hb⟩ := kk_of hAx
      walk_at "rg"
      refine ⟨_, .inr ⟨kvs, kk p h, c, hN.le (l1.trans l2), rfl, hAx, kk_depth _ _, (valV_at hnd hkv).symm⟩, fun t ht => ?_⟩
      have lt : Le H3 (L2.upd H3 t (.tup [.ref c, sg o])) := .new ht
      have hps' := lt.lst hps
      have hpl : ps.length = rws.length := Paired.length hR
      have hrl : rws.length = i := by
        have := congrArg List.length hm
        rw [List.length_map, List.length_take] at this
        omega
      have tp : Tups (L2.upd H3 t (.tup [.ref c, sg o])) (L2.upd (L2.upd H3 t (.tup [.ref c, sg o])) Dl (.lst (ps.map V.ref ++ [.ref t]))) := tups_upd hps' (fun _ z => nomatch z)
      refine ⟨_, hps', by rw [List.length_map, sizeLine_eq]; omega, (hM0 _ _).mpr ⟨(l2.trans lt).mut hD, ps ++ [t], rws ++ [(kk p h, .ref c, sg o)], by rw [upd_same, List.map_append]; rfl, Paired.snoc ((hR.le lt.tups).le tp) ⟨tp _ _ upd_same, (hAx.le lt).tp tp⟩, ?_⟩⟩
      rw [List.map_append, hm, List.take_add_one, hkv]
      rfl
    obtain ⟨l2, ps, rws, hps, hR, hm⟩ := (hM0 _ _).mp hI
    rw [List.take_length] at hm
    have hrl : rws.length = kvs.length := by
      have := congrArg List.length hm
      rw [List.length_map] at this
      exact this
    have hpl : ps.length = rws.length := Paired.length hR
    have hG : ∀ e ∈ rws, GR n r ls e := fun e he => by
      have hm2 : (e.1, e.2.2) ∈ kvs := by
        rw [← hm]
        exact List.mem_map.mpr ⟨e, he, rfl⟩
      obtain ⟨p, h, o, ee, hp, _, _, hls, hh, hs⟩ := hK _ hm2
      injection ee with e1 e2
      exact ⟨p, h, o, e1, e2, hp, hsz p h e.2.2 (by rw [← e1]; exact hm2), hls, hh, hs⟩
    have hnd1 : (rws.map (·.1)).Nodup := by
      have : rws.map (·.1) = kvs.map (·.1) := by
        rw [← hm, List.map_map]
        rfl
      rw [this]
      exact hnd
    have hndw : ∀ e ∈ rws, e.1 ≠ dw := fun e he z => by
      obtain ⟨p, h, e1, e2, e3⟩ := (hG e he).say hn2
      have a := hAw
      rw [← z, e1] at a
      have b1 := hB H k hAw
      have b2 := say_inj a b1
      rw [e2] at b2
      cases b2
    have l02 := l1.trans l2
    refine ⟨Dl, _, rfl, .inl (.of hps), _, rfl, by omega, fun p hp p1 hp1 => ?_⟩
    obtain ⟨vb, hvb, hvn, hvs⟩ := odd_bad (upd_same (H := H2) (a := p) (o := .lst [.str "a"])) (cell / 7 % 7) (Int.emod_nonneg _ (by decide)) (Int.emod_lt_of_pos _ (by decide))
    have hvs := hvs.le (Le.new hp1 (o := .lst [.str "", .str "abcdefghi", .str "aB", .int 5, .bl true, .ref p, .str "a b"]))
    have l3 : Le H2 (L2.upd (L2.upd H2 p (.lst [.str "a"])) p1 (.lst [.str "", .str "abcdefghi", .str "aB", .int 5, .bl true, .ref p, .str "a b"])) := (Le.new hp).trans (.new hp1)
    refine ⟨p1, _, _, vb, rfl, rfl, .of upd_same, hvb, ?_⟩
    generalize (L2.upd (L2.upd H2 p (.lst [.str "a"])) p1 (.lst [.str "", .str "abcdefghi", .str "aB", .int 5, .bl true, .ref p, .str "a b"])) = H3 at l3 hvs ⊢
    obtain ⟨pl, hplz, hplr⟩ : ∃ pl : Nat, cell % ((((ps.map V.ref).length : Nat) : Int) + 1) = pl ∧ pl ≤ rws.length := by
      have z0 := Int.emod_nonneg cell (show ((((ps.map V.ref).length : Nat) : Int) + 1) ≠ 0 by omega)
      have z1 := Int.emod_lt_of_pos cell (show (0 : Int) < ((((ps.map V.ref).length : Nat) : Int) + 1) by omega)
      rw [List.length_map] at z0 z1 ⊢
      exact ⟨(cell % (((ps.length : Nat) : Int) + 1)).toNat, by omega, by omega⟩
    rw [hplz]
    clear hplz
    have l03 := l02.trans l3
    have hD0 : H Dl = none := l1.back hD
    have hps3 := l3.lst hps
    have hR3 := hR.le l3.tups
    obtain ⟨M1, hM1⟩ : ∃ M : L2.St → Hp → Prop, ∀ σ' H', M σ' H' ↔ ∃ (R1 : Addr) (ps1 : List Addr) (rws1 : List (D × V × V)) (due : Str), σ' = [some (.ref d), some (.int cell), some k, some (.ref R1), some (.int pl), some vb, some (.str due), none, none] ∧ Le H H' ∧ H R1 = none ∧ H' R1 = some (.lst (ps1.map V.ref)) ∧ Rows H' ps1 rws1 ∧ SgnB H' vb false ∧
      ((due = "done" ∧ rws1 = rws) ∨ (due = "saying" ∧ ∃ v3, rws1 = rws.take pl ++ (dw, k, v3) :: rws.drop pl)) := ⟨_, fun _ _ => Iff.rfl⟩
    refine ⟨M1, ?_, ?_⟩
    · walk_at "rg"
      refine ite2 (fun _ => ?_) (fun _ => (hM1 _ _).mpr ⟨Dl, ps, rws, "done", rfl, l03, hD0, hps3, hR3, hvs, .inl ⟨rfl, rfl⟩⟩)
      refine ⟨Dl, _, rfl, .of hps3, fun s1 hs1 q1 hq1 => ?_⟩
      rw [cut_take _ _ (by rw [List.length_map]; omega), ← List.map_take] at hq1 ⊢
      have b1 : Le H3 (L2.upd H3 s1 (.lst ((ps.take pl).map V.ref))) := .new hs1
      have c1 : (L2.upd H3 s1 (.lst ((ps.take pl).map V.ref))) s1 = some (.lst ((ps.take pl).map V.ref)) := upd_same
      generalize (L2.upd H3 s1 (.lst ((ps.take pl).map V.ref))) = G1 at b1 c1 hq1 ⊢
      have b2 : Le G1 (L2.upd G1 q1 (.lst [.non, .str "a", vb])) := .new hq1
      have c2 : (L2.upd G1 q1 (.lst [.non, .str "a", vb])) q1 = some (.lst [.non, .str "a", vb]) := upd_same
      have c1 := b2.lst c1
      generalize (L2.upd G1 q1 (.lst [.non, .str "a", vb])) = G2 at b2 c1 c2 ⊢
      obtain ⟨v3, hv3⟩ : ∃ v3, atI [V.non, .str "a", vb] (cell / 147 % 3) = some v3 := by
        rcases (by omega : cell / 147 % 3 = 0 ∨ cell / 147 % 3 = 1 ∨ cell / 147 % 3 = 2) with e | e | e <;> rw [e]
        · exact ⟨_, rfl⟩
        · exact ⟨_, rfl⟩
        · exact ⟨_, rfl⟩
      refine ⟨q1, _, _, v3, rfl, rfl, .of c2, hv3, fun tw htw s2 hs2 => ?_⟩
      have b3 : Le G2 (L2.upd G2 tw (.tup [k, v3])) := .new htw
      have c3 : (L2.upd G2 tw (.tup [k, v3])) tw = some (.tup [k, v3]) := upd_same
      have c1 := b3.lst c1
      generalize (L2.upd G2 tw (.tup [k, v3])) = G3 at b3 c1 c3 hs2 ⊢
      have b4 : Le G3 (L2.upd G3 s2 (.lst [.ref tw])) := .new hs2
      have c4 : (L2.upd G3 s2 (.lst [.ref tw])) s2 = some (.lst [.ref tw]) := upd_same
      have c1 := b4.lst c1
      have c3 := b4.tup c3
      generalize (L2.upd G3 s2 (.lst [.ref tw])) = G4 at b4 c1 c3 c4 ⊢
      have hplp : pl ≤ ps.length := by omega
      refine ⟨s1, s2, _, _, rfl, rfl, c1, c4, (by rw [List.length_map, List.length_take, sizeLine_eq]; show _ + 1 ≤ _; omega), fun s3 hs3 => ?_⟩
      have b5 : Le G4 (L2.upd G4 s3 (.lst ((ps.take pl).map V.ref ++ [.ref tw]))) := .new hs3
      have c5 : (L2.upd G4 s3 (.lst ((ps.take pl).map V.ref ++ [.ref tw]))) s3 = some (.lst ((ps.take pl).map V.ref ++ [.ref tw])) := upd_same
      have c3 := b5.tup c3
      generalize (L2.upd G4 s3 (.lst ((ps.take pl).map V.ref ++ [.ref tw]))) = G5 at b5 c3 c5 ⊢
      have l35 := (((b1.trans b2).trans b3).trans b4).trans b5
      refine ⟨Dl, _, rfl, .of (l35.lst hps3), fun s4 hs4 => ?_⟩
      rw [cut_drop _ _ (by rw [List.length_map]; omega), ← List.map_drop]
      have b6 : Le G5 (L2.upd G5 s4 (.lst ((ps.drop pl).map V.ref))) := .new hs4
      have c6 : (L2.upd G5 s4 (.lst ((ps.drop pl).map V.ref))) s4 = some (.lst ((ps.drop pl).map V.ref)) := upd_same
      have c5 := b6.lst c5
      have c3 := b6.tup c3
      generalize (L2.upd G5 s4 (.lst ((ps.drop pl).map V.ref))) = G6 at b6 c3 c5 c6 ⊢
      refine ⟨s3, s4, _, _, rfl, rfl, c5, c6, (by rw [List.length_append, List.length_map, List.length_map, List.length_take, List.length_drop, sizeLine_eq]; show _ + 1 + _ ≤ _; omega), fun s5 hs5 => ?_⟩
      have b7 : Le G6 (L2.upd G6 s5 (.lst ((ps.take pl).map V.ref ++ [.ref tw] ++ (ps.drop pl).map V.ref))) := .new hs5
      have l37 := (l35.trans b6).trans b7
      refine (hM1 _ _).mpr ⟨s5, ps.take pl ++ tw :: ps.drop pl, rws.take pl ++ (dw, k, v3) :: rws.drop pl, "saying", rfl, l03.trans l37, l03.back (((l35.trans b6)).back hs5), ?_, ?_, hvs.le l37, .inr ⟨rfl, v3, rfl⟩⟩
      · rw [upd_same, List.map_append, List.map_cons, List.append_assoc]
        rfl
      · have hR7 := hR3.le l37.tups
        exact paired_app (paired_take hR7 pl) (.cons ⟨b7.tup c3, hAw.le (l03.trans l37)⟩ (paired_drop hR7 pl))
    · rintro σ' H4 hm1
      obtain ⟨R1, ps1, rws1, due, rfl, l4, hR10, hps1, hR1, hvs1, hmid⟩ := (hM1 _ _).mp hm1
      obtain ⟨M2, hM2⟩ : ∃ M : L2.St → Hp → Prop, ∀ σ' H', M σ' H' ↔ ∃ (ps2 : List Addr) (rws2 : List (D × V × V)) (due2 : Str) (v7 : Option V), σ' = [some (.ref d), some (.int cell), some k, some (.ref R1), some (.int pl), some vb, some (.str due2), v7, none] ∧ Le H H' ∧ H' R1 = some (.lst (ps2.map V.ref)) ∧ Rows H' ps2 rws2 ∧ SgnB H' vb false ∧
        FinR n r ls dw vb rws2 due2 ∧ rws2.map (·.1) = rws1.map (·.1) := ⟨_, fun _ _ => Iff.rfl⟩
      refine ⟨M2, ?_, ?_⟩
      · walk_at "rg"
        have fin0 : FinR n r ls dw vb rws1 due := by
          rcases hmid with ⟨e, _⟩ | ⟨e, v3, er⟩
          · exact .inl e
          · refine .inr ⟨pl, (dw, k, v3), fun j hj e' he' => ?_, ?_, .inl ⟨rfl, e⟩⟩
            · rw [er, ins_get _ _ _ hplr, if_pos hj] at he'
              exact hG e' (List.mem_of_getElem? he')
            · rw [er, ins_get _ _ _ hplr, if_neg (Nat.lt_irrefl _), if_pos rfl]
        have hlen1 : rws.length ≤ rws1.length ∧ rws1.length ≤ rws.length + 1 := by
          rcases hmid with ⟨_, er⟩ | ⟨_, v3, er⟩
          · rw [er]; omega
          · rw [er, List.length_append, List.length_cons, List.length_take, List.length_drop]; omega
        have hpl1 : ps1.length = rws1.length := Paired.length hR1
        have hkey : ∀ e ∈ rws1, e.1 ≠ dw → e ∈ rws := fun e he hne => by
          rcases hmid with ⟨_, er⟩ | ⟨_, v3, er⟩
          · rw [er] at he
            exact he
          · rw [er] at he
            rcases List.mem_append.mp he with h | h
            · exact List.mem_of_mem_take h
            · rcases List.mem_cons.mp h with h | h
              · rw [h] at hne
                exact absurd rfl hne
              · exact List.mem_of_mem_drop h
        have stay : ∀ (v7 : Option V), M2 [some (.ref d), some (.int cell), some k, some (.ref R1), some (.int pl), some vb, some (.str due), v7, none] H4 := fun v7 => (hM2 _ _).mpr ⟨ps1, rws1, due, v7, rfl, l4, hps1, hR1, hvs1, fin0, rfl⟩
        refine ite2 (fun _ => ?_) (fun _ => stay _)
        obtain ⟨_, o4, ho4, hI4⟩ := id (hN.le l4)
        refine ⟨d, o4, kvs.length, rfl, ho4, size_ND hI4, hsy, by rw [sizeLine_eq]; omega, _, rfl, ite2 (fun hpos => ?_) (fun _ => stay _)⟩
        have hpos : 0 < kvs.length := by have := of_decide_eq_true hpos; omega
        refine ⟨R1, _, rfl, .inl (.of hps1), _, rfl, by rw [List.length_map]; omega, ?_⟩
        obtain ⟨at_, hatz, hatl⟩ : ∃ at_ : Nat, cell / 441 % (((ps1.map V.ref).length : Nat) : Int) = at_ ∧ at_ < rws1.length := by
          have z0 := Int.emod_nonneg (cell / 441) (show (((ps1.map V.ref).length : Nat) : Int) ≠ 0 by rw [List.length_map]; omega)
          have z1 := Int.emod_lt_of_pos (cell / 441) (show (0 : Int) < (((ps1.map V.ref).length : Nat) : Int) by rw [List.length_map]; omega)
          rw [List.length_map] at z0 z1 ⊢
          exact ⟨(cell / 441 % ((ps1.length : Nat) : Int)).toNat, by omega, by omega⟩
        rw [hatz]
        clear hatz
        obtain ⟨e, he⟩ : ∃ e, rws1[at_]? = some e := ⟨_, List.getElem?_eq_getElem hatl⟩
        obtain ⟨t, ht⟩ : ∃ t, ps1[at_]? = some t := ⟨_, List.getElem?_eq_getElem (by omega)⟩
        obtain ⟨hte, hAe⟩ : H4 t = some (.tup [e.2.1, e.2.2]) ∧ At H4 e.1 e.2.1 := by
          obtain ⟨e', he', h1⟩ := paired_get hR1 ht
          rw [he] at he'
          obtain rfl := Option.some.inj he'
          exact h1
        have hat : atI (ps1.map V.ref) at_ = some (.ref t) := at_of (j := at_) (by omega) (by rw [List.getElem?_map, ht]; rfl)
        refine ⟨R1, _, _, _, rfl, rfl, .of hps1, hat, t, _, _, e.2.1, rfl, rfl, .of hte, rfl, ?_⟩
        have kde : KeyD e.1 := by
          by_cases hne : e.1 = dw
          · rw [hne]; exact hKd
          · obtain ⟨p, h, o, e1, _⟩ := hG e (hkey e (List.mem_of_getElem? he) hne)
            rw [e1]; exact keyD_kk p h
        refine ⟨e.1, dw, hAe, hAw.le l4, kde.ok, hKd.ok, kde.dp, hKd.dp, _, rfl, ?_⟩
        by_cases hne : e.1 = dw
        · rw [decide_eq_true hne]
          exact iteF (stay _)
        rw [decide_eq_false hne]
        refine iteT fun q2 hq2 => ?_
        have hGs := (hG e (hkey e (List.mem_of_getElem? he) hne)).say hn2
        have tail : ∀ (z : Str) (H6 : Hp), Le H4 H6 → FinR n r ls dw vb (rws1.set at_ (e.1, e.2.1, vb)) z → rIxL K (.ref R1) (.int (at_ : Nat)) H6 fun x5 H1 => rIxT K x5 (.int 0) H1 fun x6 H1 => ∀ p, H1 p = none → ∃ x7, (L2.upd H1 p (.tup [x6, vb])) R1 = some (.lst x7) ∧ ∃ x8, ixN x7.length (at_ : Nat) = some x8 ∧
            M2 [some (.ref d), some (.int cell), some k, some (.ref R1), some (.int pl), some vb, some (.str z), some (.int (at_ : Nat)), none] (L2.upd (L2.upd H1 p (.tup [x6, vb])) R1 (.lst (x7.set x8 (.ref p)))) := fun z H6 l46 hF => by
          refine ⟨R1, _, _, _, rfl, rfl, .of (l46.lst hps1), hat, t, _, _, e.2.1, rfl, rfl, .of (l46.tup hte), rfl, fun p hp => ?_⟩
          have lp : Le H6 (L2.upd H6 p (.tup [e.2.1, vb])) := .new hp
          have hps6 := (l46.trans lp).lst hps1
          have hp6 : (L2.upd H6 p (.tup [e.2.1, vb])) p = some (.tup [e.2.1, vb]) := upd_same
          refine ⟨_, hps6, at_, by rw [List.length_map]; unfold ixN; simp; omega, ?_⟩
          generalize (L2.upd H6 p (.tup [e.2.1, vb])) = H7 at lp hps6 hp6 ⊢
          have l47 := l46.trans lp
          have tp : Tups H7 (L2.upd H7 R1 (.lst ((ps1.map V.ref).set at_ (.ref p)))) := tups_upd hps6 (fun _ z => nomatch z)
          refine (hM2 _ _).mpr ⟨ps1.set at_ p, rws1.set at_ (e.1, e.2.1, vb), z, _, rfl, (l4.trans l47).mut hR10, by rw [upd_same, List.map_set], ?_, ?_, hF, ?_⟩
          · exact paired_set (hR1.le (l47.tups.trans tp)) at_ ⟨tp _ _ hp6, (hAe.le l47).tp tp⟩
          · rcases hvs1.le l47 with h | ⟨h, e⟩
            · exact .inl h
            · refine .inr ⟨?_, e⟩
              rcases h with h | h | h | ⟨a, xs, e1, e2⟩ | ⟨a, xs, e1, e2⟩
              · exact .inl h
              · exact .inr (.inl h)
              · exact .inr (.inr (.inl h))
              · exact .inr (.inr (.inr (.inl ⟨a, xs, e1, tp _ _ e2⟩)))
              · refine .inr (.inr (.inr (.inr ⟨a, ?_⟩)))
                by_cases ea : a = R1
                · exact ⟨_, e1, by rw [ea, upd_same]⟩
                · exact ⟨_, e1, by rw [upd_ne ea]; exact e2⟩
          · rw [List.map_set]
            refine List.ext_getElem? fun j => ?_
            rw [List.getElem?_set]
            split
            · rename_i h
              subst h
              rw [List.length_map, if_pos hatl, List.getElem?_map, he]
              rfl
            · rfl
        have set_lt : ∀ j, j ≠ at_ → (rws1.set at_ (e.1, e.2.1, vb))[j]? = rws1[j]? := fun j hj => by rw [List.getElem?_set, if_neg (Ne.symm hj)]
        have set_at : (rws1.set at_ (e.1, e.2.1, vb))[at_]? = some (e.1, e.2.1, vb) := by rw [List.getElem?_set, if_pos rfl, if_pos hatl]
        have lq : Le H4 (L2.upd H4 q2 (.lst [.str "sign", .str due])) := .new hq2
        rcases hmid with ⟨ed, er⟩ | ⟨ed, v3, er⟩
        · subst ed
          rw [decide_eq_false (by decide +kernel)]
          refine iteF (.inr ⟨q2, _, _, .str "sign", rfl, rfl, .of upd_same, rfl, tail "sign" _ lq (.inr ⟨at_, _, fun j hj e' he' => ?_, set_at, .inr ⟨hGs, rfl, rfl⟩⟩)⟩)
          rw [set_lt j (by omega), er] at he'
          exact hG e' (List.mem_of_getElem? he')
        · subst ed
          rw [decide_eq_true rfl]
          have hap : at_ ≠ pl := fun z => by
            rw [er, ins_get _ _ _ hplr, if_neg (by omega), if_pos z] at he
            have := Option.some.inj he
            rw [← this] at hne
            exact hne rfl
          by_cases hlt : pl < at_
          · rw [decide_eq_true (show (pl : Int) < at_ by omega)]
            refine iteT (.inr ⟨q2, _, _, .str "saying", rfl, rfl, .of upd_same, rfl, tail "saying" _ lq (.inr ⟨pl, (dw, k, v3), fun j hj e' he' => ?_, ?_, .inl ⟨rfl, rfl⟩⟩)⟩)
            · rw [set_lt j (by omega), er, ins_get _ _ _ hplr, if_pos hj] at he'
              exact hG e' (List.mem_of_getElem? he')
            · rw [set_lt pl (by omega), er, ins_get _ _ _ hplr, if_neg (Nat.lt_irrefl _), if_pos rfl]
          · rw [decide_eq_false (show ¬ (pl : Int) < at_ by omega)]
            refine iteT (.inr ⟨q2, _, _, .str "sign", rfl, rfl, .of upd_same, rfl, tail "sign" _ lq (.inr ⟨at_, _, fun j hj e' he' => ?_, set_at, .inr ⟨hGs, rfl, rfl⟩⟩)⟩)
            rw [set_lt j (by omega), er, ins_get _ _ _ hplr, if_pos (by omega)] at he'
            exact hG e' (List.mem_of_getElem? he')
      · rintro σ' H5 hm2
        obtain ⟨ps2, rws2, due2, v7, rfl, l5, hps2, hR2, hvs2, hF, hmap⟩ := (hM2 _ _).mp hm2
        walk_at "rg"
        have hkd : ∀ e ∈ rws1, KeyD e.1 ∧ (e.1 ≠ dw → ∃ p h, e.1 = kk p h) := fun e he => by
          by_cases hne : e.1 = dw
          · exact ⟨by rw [hne]; exact hKd, fun z => absurd hne z⟩
          · have hm : e ∈ rws := by
              rcases hmid with ⟨_, er⟩ | ⟨_, v3, er⟩
              · rw [er] at he
                exact he
              · rw [er] at he
                rcases List.mem_append.mp he with h | h
                · exact List.mem_of_mem_take h
                · rcases List.mem_cons.mp h with h | h
                  · rw [h] at hne
                    exact absurd rfl hne
                  · exact List.mem_of_mem_drop h
            obtain ⟨p, h, o, e1, _⟩ := hG e hm
            exact ⟨by rw [e1]; exact keyD_kk p h, fun _ => ⟨p, h, e1⟩⟩
        have hnd2 : (rws1.map (·.1)).Nodup := by
          rcases hmid with ⟨_, er⟩ | ⟨_, v3, er⟩
          · rw [er]
            exact hnd1
          · rw [er, ins_map]
            exact ins_nodup hnd1 fun z => by
              obtain ⟨e, he, ee⟩ := List.mem_map.mp z
              exact hndw e he ee
        have hk2 : ∀ e ∈ rws2, ∃ e' ∈ rws1, e'.1 = e.1 := fun e he => by
          have : e.1 ∈ rws2.map (·.1) := List.mem_map.mpr ⟨e, he, rfl⟩
          rw [hmap] at this
          exact List.mem_map.mp this
        have hlen2 : rws2.length ≤ 1000 := by
          have h1 := congrArg List.length hmap
          rw [List.length_map, List.length_map] at h1
          rcases hmid with ⟨_, er⟩ | ⟨_, v3, er⟩
          · rw [er] at h1; omega
          · rw [er, List.length_append, List.length_cons, List.length_take, List.length_drop] at h1; omega
        refine ⟨R1, ps2, rws2, rfl, .of hps2, hR2, by rw [hmap]; exact hnd2, fun e he => ?_, hlen2, ?_, fun p o evs hp hpsys hE hl hA p2 hp2 => ?_⟩
        · obtain ⟨e', he', ee⟩ := hk2 e he
          rw [← ee]
          exact (hkd e' he').1.dep
        · by_cases htw : ∃ ks, dw = .tup ks
          · refine .inl fun e he => ?_
            obtain ⟨e', he', ee⟩ := hk2 e he
            rw [← ee]
            by_cases hne : e'.1 = dw
            · rw [hne]
              exact htw
            · obtain ⟨p, h, e1⟩ := (hkd e' he').2 hne
              exact ⟨_, e1⟩
          · have hdw : dw = .num 5 ∨ dw = .none := hKd.kind.resolve_left htw
            refine .inr ⟨?_, fun e he x => ?_⟩
            · have e1 : (rws2.map fun e => e.1.hash w) = (rws1.map fun e => e.1.hash w) := by
                have := congrArg (List.map fun x : D => x.hash w) hmap
                rw [List.map_map, List.map_map] at this
                exact this
              have e2 : (rws.map fun e => e.1.hash w) = kvs.map fun p => p.1.hash w := by
                rw [← hm, List.map_map]
                rfl
              have hnk := kk_nodup (w := w) hnd hK hn2 hmn
              rw [← e2] at hnk
              rw [e1]
              rcases hmid with ⟨_, er⟩ | ⟨_, v3, er⟩
              · rw [er]
                exact hnk
              · rw [er, ins_map]
                refine ins_nodup hnk fun z => ?_
                obtain ⟨e, he, ee⟩ := List.mem_map.mp z
                obtain ⟨p, h, o, e3, _, hpp, hpl2, _, hhh, _⟩ := hG e he
                have ee : e.1.hash w = dw.hash w := ee
                rw [e3, hash_kk] at ee
                have hmem : (e.1, e.2.2) ∈ kvs := by
                  rw [← hm]
                  exact List.mem_map.mpr ⟨e, he, rfl⟩
                obtain ⟨p', h', _, e4, _, hl3, _⟩ := hK _ hmem
                injection e4 with e4 _
                rw [e3] at e4
                obtain ⟨e5, _⟩ := kk_inj e4
                subst e5
                have hk := List.all_eq_true.mp allKH_odd _ (mem_allKH hpp hhh hn2 (by omega))
                rw [Bool.and_eq_true, decide_eq_true_eq, decide_eq_true_eq] at hk
                rcases hdw with ed | ed
                · rw [ed, NestedKey.hash] at ee
                  exact hk.1 ee
                · rw [ed, NestedKey.hash] at ee
                  exact hk.2 ee
            · obtain ⟨e', he', ee⟩ := hk2 e he
              rw [← ee]
              by_cases hne : e'.1 = dw
              · rw [hne]
                rcases hdw with ed | ed <;> (rw [ed]; exact fun z => nomatch z)
              · obtain ⟨p, h, e1⟩ := (hkd e' he').2 hne
                rw [e1]
                exact fun z => nomatch z
        · have lA : Le H5 (L2.upd H5 p (raw p o)) := .new hp
          have lB : Le (L2.upd H5 p (raw p o)) (L2.upd (L2.upd H5 p (raw p o)) p2 (.tup [.ref p, .str due2])) := .new hp2
          refine q p2 p due2 _ (l5.trans (lA.trans lB)) upd_same ?_
          by_cases hd : due2 = "done"
          · exact .inl hd
          · obtain ⟨out, hL, ho⟩ := fin_lies (K := K) (H := H5) hn2 hF hd hB hvn hvs2 hl hA
            exact .inr ⟨o, evs, out, lB.ext upd_same, hE, hpsys, hL.le (lA.trans lB), ho⟩
end

/-! the readings made plain -/
local macro_rules | `(tactic| walk_at "rd") => `(tactic| simp (config := {decide := true}) only [tSeq, tAsg, gName, tC, tVar, tOp, tUn, rI0, rI, rU, tLst, tTup, tNil, tCons, tCB, tTest, tB, tIfS, tRet, tNext, tDrop, tAnd, tOr, tNot, tAndV, tOrV, tNotV, tIf, tSl, tPart, tNoPart, L2.start, List.map, List.length_cons, List.length_nil, List.replicate, List.set_cons_succ, List.set_cons_zero, List.cons_append, List.nil_append, List.append_nil, List.getElem?_cons_succ, List.getElem?_cons_zero, exists_eq_left', Option.some.injEq, V.int.injEq, V.str.injEq, V.bl.injEq, V.ref.injEq, List.cons.injEq, exists_and_left, exists_eq_left, true_and, and_true, and_self, and_assoc, rIxS, rMulS, rEq, rNe, scal_int, scal_str, scal_bl, CDiv, CMul, Nat.zero_le, true_or, or_true, Nat.zero_add, Nat.reduceAdd, Nat.reduceSub, Int.zero_add, tCall, tYes, wipe, reduceIte, if_true, if_false, Bool.false_eq_true, tBM, tBM0, rAppend, gSub, rSetL, tNGet, sNPut, tNGet2, tNNew])
local macro_rules | `(tactic| walk_at "rg") => `(tactic| simp (config := {decide := true}) only [for_eq, lc_eq, lc2_eq, dc1_eq, dc2_eq, tCallS, tMakeS, tMake, tNClear, tAllL, tAllI, tLenSetT, iNItems, iEnumA, tMethE, tMeth, tFld, sFld, sFldAug, rAdd, iStr, iEnum, iPerm, tChain, tLstRg, tRg1, tRg2, iRng1, iRng2, iList, iTup, iNKeys, List.getElem?_nil, List.length_nil, StX.tStar, rCatT, gTup, gCons, gNil, tSeq, tAsg, gName, tC, tVar, tOp, tUn, rI0, rI, rU, tLst, tTup, tNil, tCons, tCB, tTest, tB, tIfS, tRet, tNext, tDrop, tAnd, tOr, tNot, tAndV, tOrV, tNotV, tIf, tSl, tPart, tNoPart, L2.start, List.map, List.length_cons, List.length_nil, List.replicate, List.set_cons_succ, List.set_cons_zero, List.cons_append, List.nil_append, List.append_nil, List.getElem?_cons_succ, List.getElem?_cons_zero, exists_eq_left', Option.some.injEq, V.int.injEq, V.str.injEq, V.bl.injEq, V.ref.injEq, List.cons.injEq, exists_and_left, exists_eq_left, true_and, and_true, and_self, and_assoc, rIxS, rMulS, rEq, rNe, scal_int, scal_str, scal_bl, CDiv, CMul, Nat.zero_le, true_or, or_true, Nat.zero_add, Nat.reduceAdd, Nat.reduceSub, Int.zero_add, tCall, tYes, wipe, reduceIte, if_true, if_false, Bool.false_eq_true, tBM, tBM0, rAppend, gSub, rSetL, tNGet, sNPut, tNGet2, tNNew])
/-- a comprehension whose items are all true -/
theorem lc_trues {J : It} {n : Nat} {G : Hp → Prop} {Y : Nat → Hp → V → Hp → Prop} (wk : Walk J n G Y) {g : TG} {tt : TT} {te : TE} {vs : List Nat} {σ : L2.St} {H1 : Hp} {D' : Addr} {Q : VK} (hD : H1 D' = none) (hn : n ≤ 100000) (hG : ∀ H', Le H1 H' → G H')
    (hs : ∀ i x H' H'', i < n → Le H1 H' → Y i H' x H'' → ∀ (Yk : V → Hp → Prop) (Nk : Hp → Prop), (∀ H4, Le H' H4 → Yk (.bl true) H4) → g x (wipe σ vs) H'' fun σ2 H2 => wipe σ2 vs = wipe σ vs ∧ tt σ2 H2 fun b H3 => if b = true then te σ2 H3 Yk else Nk H3)
    (hd : ∀ H', Le H1 H' → H' D' = some (.lst ((List.replicate n true).map V.bl)) → Q (.ref D') H') : LoopC J g tt te vs σ H1 D' Q := by
  refine lc_it wk (fun i H' => Le H1 H' ∧ H' D' = some (.lst ((List.replicate i true).map V.bl))) ⟨.new hD, upd_same⟩ (fun i H' _ h => hG H' h.1) (fun i x H' H'' hi h hy => ?_) (fun H' h => hd H' h.1 h.2)
  obtain ⟨l, hx⟩ := h
  refine hs i x H' H'' hi l hy _ _ (fun H4 l4 => ⟨_, l4.lst hx, ?_, (l.trans l4).mut hD, ?_⟩)
  · rw [List.length_map, List.length_replicate]
    exact Nat.lt_of_lt_of_le hi (Nat.le_trans hn (by rw [sizeLine_eq]; decide))
  · rw [upd_same, List.replicate_succ', List.map_append]
    rfl
theorem all_true (n : Nat) : (List.replicate n true).all id = true := by
  rw [List.all_eq_true]
  intro x hx
  rw [(List.mem_replicate.mp hx).2]
  rfl
section
variable {P : Program} {w : World} {K : PySem.W.Frag} {mg : Str → Option Value} {base : Heap}
def spPlay (P : Program) (w : World) : Sp := fun vs H Q _ => ∃ (n m : Nat) (s : Option Str) (d : Addr) (lkv : List (D × V)) (lie : Lie), vs = [.int n, .int m, sg s, .ref d] ∧ 2 ≤ n ∧ n ≤ 10 ∧ m ≤ 2 ∧ ND P w H d lkv ∧ LieOk lkv lie ∧
  ∀ E H' es, H E = none → Le H H' → H' E = some (.lst (es.map V.ref)) → es.length = n → es.Nodup → (∀ e ∈ es, H e = none) → Ears P w H' es (fun h => earM lie s h (allPM n m)) → Q (.ref E) H'
abbrev s_law_play : Stmt := top 39
abbrev n_law_play : List Str := ["_law_hands_here", "_law_most", "_law_sign", "_law_lies_here", "_law_ears", "_law_size", "_law_path", "_law_truth", "_law_hearer", "_law_hand"]
theorem sc_law_play : FnScope ["_law_hands_here", "_law_most", "_law_sign", "_law_lies_here", "_law_ears", "_law_size", "_law_path", "_law_truth", "_law_hearer", "_law_hand"] ["_law_hands_here", "_law_most", "_law_sign", "_law_lies_here"] (defScope s_law_play) := ⟨rfl, rfl, rfl, by decide +kernel, rfl, by decide +kernel, by decide +kernel⟩
theorem ok_law_play {f f1 : Addr} {fd fd1 : FuncData} (F : Fun K "_law_play" "_law_play" s_law_play f fd) (T : Bt mg)
    (c_law_paths : Cal P w K mg base CX0 1 "_law_paths" ["_law_hands_here", "_law_size"] spPaths f1 fd1) : FnOk P w K mg base CX0 2 f fd ["_law_hands_here", "_law_most", "_law_sign", "_law_lies_here"] (spPlay P w) := by
  refine F.ok sc_law_play (fun vs H Q E h => ?_) (fun cdv A outer s H vs Q E hr h => ?_)
  · obtain ⟨n, m, s', d, lkv, lie, rfl, _⟩ := h
    rfl
  · obtain ⟨n, m, s', d, lkv, lie, rfl, hn, hn2, hm, hLi, hlie, q⟩ := h
    have hu := hr.units
    refine ⟨_, (pss_cons (ps_setLc (i := 4) (own := [("_law_hand", 9)]) (g := gName 9) rfl sc_law_play.nd rfl rfl (sw_true rfl rfl rfl (by decide +kernel)) (pi_range1 (by rfl) T.b_range (pa_cons (pv 0) pa_nil)) (blkOk_by (N := n_law_play) (sc := defScope s_law_play) (own := [("_law_hand", 9)]) (by decide +kernel)) (fun _ _ _ _ _ => (pg_name (i := 9) sc_law_play.nd rfl (Or.inl rfl))) (fun _ _ _ _ _ => pts_nil) (fun _ _ _ _ _ => pe_nnew))
        (pss_cons (ps_for PassesOwn.never rfl (pi_range2 (by rfl) T.b_range (pa_cons pe_int (pa_cons (pe_op op_add (pv 1) pe_int) pa_nil))) (pg_name (i := 5) sc_law_play.nd rfl (Or.inl rfl))
          (pss_one (ps_for PassesOwn.never rfl (pi_listK (K := K) rfl (pe_own c_law_paths (hr.mono (by omega)) rfl (pa_cons (pv 0) (pa_cons (pv 5) pa_nil)))) (pg_name (i := 6) sc_law_play.nd rfl (Or.inr rfl))
            (pss_cons (ps_set (i := 7) sc_law_play.nd rfl (Or.inl rfl) (pv 2))
            (pss_join (ps_if (pt_cmpR op_gt (pv 5) pe_int (nomark _))
              (pss_one (ps_set (i := 7) sc_law_play.nd rfl (Or.inl rfl) (pe_ngetK (P := P) (w := w) rfl rfl hu (pe_ix (ix_listK (K := K) rfl) (pv 4) (pe_ix (ix_tupK (K := K) rfl) (pv 6) (pe_un un_neg pe_int) (fun _ _ => rfl)) (fun _ _ => rfl)) (pe_slice (sl_tupK (K := K) rfl) (pv 6) po_none (po_some (pe_un un_neg pe_int))) (fun _ _ => rfl))))
              pss_nil)
            (pss_one (ps_for PassesOwn.never rfl (pi_listK (K := K) rfl (pe_lc (own := [("_law_hand", 9)]) (g := gName 9) rfl sc_law_play.nd (pi_range1 (by rfl) T.b_range (pa_cons (pv 0) pa_nil)) (blkOk_by (N := n_law_play) (sc := defScope s_law_play) (own := [("_law_hand", 9)]) (by decide +kernel)) (fun _ _ _ _ _ => (pg_name (i := 9) sc_law_play.nd rfl (Or.inl rfl))) (fun _ _ _ _ _ => pts_one (pt_cmpR (notIn_seqK (K := K) rfl) (pv 9) (pv 6) rfl)) (fun _ _ _ _ _ => (pv 9)))) (pg_name (i := 8) sc_law_play.nd rfl (Or.inl rfl))
              (pss_one (ps_nputK (P := P) (w := w) rfl rfl hu (pe_ix (ix_listK (K := K) rfl) (pv 4) (pv 8) (fun _ _ => rfl)) (pv 6) (pe_nget2K (P := P) (w := w) rfl rfl hu (pv 3) (pe_tup (pa_cons (pv 6) (pa_cons (pv 8) pa_nil))) (pv 7) ⟨rfl, rfl, rfl, rfl⟩) rfl)))))))))
        (pss_one (ps_ret (pv 4))))), ?_⟩
    walk_at "rg"
    have s300 : ∀ z : Nat, z ≤ 1000 → z < sizeLine := fun z hz => by rw [sizeLine_eq]; omega
    refine ⟨by omega, by omega, fun E hE => lc_it walk_range (fun i H' => Le H H' ∧ ∃ es : List Addr, H' E = some (.lst (es.map V.ref)) ∧ es.length = i ∧ es.Nodup ∧ (∀ e ∈ es, H e = none ∧ e ≠ E) ∧ Ears P w H' es (fun _ => []))
      ⟨.new hE, [], upd_same, rfl, List.nodup_nil, (fun _ h => nomatch h), fun i e h => by simp at h⟩ (fun _ _ _ _ => True.intro) (fun i x H1 H2 hi hI hy => ?_) (fun H1 hI => ?_)⟩
    · obtain ⟨l, es, hEs, hl, nd, hne, hEar⟩ := hI
      obtain ⟨rfl, rfl⟩ := hy
      refine ⟨rfl, ?_⟩
      walk_at "rg"
      intro e he hs
      have heE : e ≠ E := fun z => by
        rw [z, hEs] at he
        cases he
      have heN : e ∉ es := fun hm => by
        obtain ⟨j, hj⟩ := List.mem_iff_getElem?.mp hm
        obtain ⟨_, o, ho, _⟩ := hEar j e hj
        rw [he] at ho
        cases ho
      have l1 : Le H2 (L2.upd H2 e (raw e newD)) := .new he
      have hEs1 : (L2.upd H2 e (raw e newD)) E = some (.lst (es.map V.ref)) := l1.lst hEs
      refine ⟨_, hEs1, s300 _ (by rw [List.length_map]; omega), (l.trans l1).mut hE, es ++ [e], by rw [upd_same, List.map_append]; rfl, by rw [List.length_append, hl]; rfl, ?_, fun e' he' => ?_, fun j e' hj => ?_⟩
      · rw [List.nodup_append]
        exact ⟨nd, by simp, fun a ha b hb z => by rw [List.mem_singleton.mp hb] at z; exact heN (z ▸ ha)⟩
      · rcases List.mem_append.mp he' with h | h
        · exact hne e' h
        · rw [List.mem_singleton.mp h]
          exact ⟨l.back he, heE⟩
      · have tp : Tups (L2.upd H2 e (raw e newD)) (L2.upd (L2.upd H2 e (raw e newD)) E (.lst (es.map V.ref ++ [.ref e]))) := tups_upd hEs1 (fun _ z => nomatch z)
        by_cases hj2 : j < es.length
        · rw [List.getElem?_append_left hj2] at hj
          have hm := List.mem_of_getElem? hj
          exact ((hEar j e' hj).le l1).at tp fun o ho => by rw [upd_ne (hne e' hm).2]; exact ho
        · rw [List.getElem?_append_right (by omega)] at hj
          have : j - es.length = 0 := by
            have := (List.getElem?_eq_some_iff.mp hj).1
            simp at this
            omega
          rw [this] at hj
          simp at hj
          subst hj
          exact ⟨hs, newD, by rw [upd_ne heE]; exact upd_same, newD_ND P w _⟩
    · obtain ⟨l, es, hEs, hl, nd, hne, hEar⟩ := hI
      rw [Int.toNat_natCast] at hl
      refine ⟨by omega, by omega, ?_⟩
      rw [show ((m : Int) + 2 - 1).toNat = m + 1 by omega]
      refine for_it walk_range (fun i σ H' => ∃ (v5 v6 v7 v8 : Option V), σ = [some (.int n), some (.int m), some (sg s'), some (.ref d), some (.ref E), v5, v6, v7, v8, none] ∧ Le H H' ∧ H' E = some (.lst (es.map V.ref)) ∧ Ears P w H' es (fun h => earM lie s' h (upTo n i)))
        ⟨_, _, _, _, rfl, l, hEs, hEar⟩ (fun _ _ _ _ _ => True.intro) ?_ ?_
      · rintro i x σ H2 H3 hi ⟨v5, v6, v7, v8, rfl, l2, g1, gE⟩ ⟨rfl, rfl⟩
        walk_at "rg"
        refine ⟨n, i + 1, by simp [Int.add_comm], hn, hn2, by omega, by omega, fun D1 H4 ys hD1 l4 hys hA => ?_⟩
        refine ⟨D1, rfl, ⟨_, .of hys⟩, ?_⟩
        have hyl := hA.length
        rw [List.length_map] at hyl
        have hpl := paths_length (n := n) (k := i + 1) hn2 (by omega)
        have hup := upTo_small (n := n) (k := i) hn2 (by omega)
        refine for_it (walk_listN hyl) (fun j σ H' => ∃ (v6 v7 v8 : Option V), σ = [some (.int n), some (.int m), some (sg s'), some (.ref d), some (.ref E), some (.int (1 + i)), v6, v7, v8, none] ∧ Le H H' ∧ H' E = some (.lst (es.map V.ref)) ∧ H' D1 = some (.lst ys) ∧ Ats H' ((pathsM n (i + 1)).map pk) ys ∧ Ears P w H' es (fun h => earM lie s' h (upTo n i ++ (pathsM n (i + 1)).take j)))
          ⟨_, _, _, rfl, l2.trans l4, l4.lst g1, hys, hA, by simpa using gE.le l4⟩ (fun j σ H' _ ⟨_, _, _, _, _, _, g, _⟩ => .of g) ?_ ?_
        · rintro j x σ H5 H6 hj ⟨v6, v7, v8, rfl, l5, g1, gD, gA, gE⟩ ⟨rfl, hx⟩
          obtain ⟨dd, hd, hAx⟩ := gA.get' hx
          rw [List.getElem?_map] at hd
          obtain ⟨p, hp, rfl⟩ := Option.map_eq_some_iff.mp hd
          obtain ⟨b, rfl, hb⟩ := pk_of hAx
          obtain ⟨hpP, hpL, hpN⟩ := (mem_paths hn (by omega)).mp (List.mem_of_getElem? hp)
          walk_at "rg"
          have hbE : b ≠ E := fun e => by
            rw [e, g1] at hb
            cases hb
          refine ⟨fun σ' H' => Le H6 H' ∧ ∃ (v8 : Option V), σ' = [some (.int n), some (.int m), some (sg s'), some (.ref d), some (.ref E), some (.int (1 + i)), some (.ref b), some (sg (wordM lie s' p)), v8, none], ?_, ?_⟩
          · walk_at "rg"
            refine ite2 (fun hc => ?_) (fun hc => ?_)
            · have hc := of_decide_eq_true hc
              have h2 : 2 ≤ p.length := by omega
              obtain ⟨dP, dN, d0, d1⟩ := dropLast_isP hpP h2
              have hlt : (lastM p).toNat < es.length := by omega
              obtain ⟨e, he⟩ : ∃ e, es[(lastM p).toNat]? = some e := ⟨_, List.getElem?_eq_getElem hlt⟩
              refine ⟨b, _, _, _, rfl, rfl, .of hb, at_lastM hpP.pos, E, _, _, .ref e, rfl, rfl, .of g1, at_of (j := (lastM p).toNat) (by omega) (by rw [List.getElem?_map, he]; rfl), b, _, rfl, .of hb, ?_, fun c hc2 => ?_⟩
              · rintro ⟨_, h⟩
                have h : HT.sIx (p.map V.int).length (p.map V.int).length (some (-1)) = (p.map V.int).length := h
                rw [sIx_neg1, List.length_map] at h
                omega
              · rw [cut_init]
                have hN := (gE _ e he).le (Le.new hc2 (o := .tup (p.dropLast.map V.int)))
                have hv : valV (earM lie s' (((lastM p).toNat : Nat) : Int) (upTo n i ++ (pathsM n (i + 1)).take j)) (pk p.dropLast) = some (sg (wordM lie s' p)) := by
                  rw [ear_val, show (((lastM p).toNat : Nat) : Int) = lastM p by omega, if_pos ⟨List.mem_append_left _ ((mem_upTo hn).mpr ⟨dP, by rw [List.length_dropLast]; omega, by rw [List.length_dropLast]; omega⟩), dN⟩]
                  unfold wordM
                  rw [if_neg (by omega)]
                refine ⟨e, rfl, _, .inr ⟨_, _, c, hN, rfl, pk_at upd_same, pk_depth _, hv.symm⟩, .new hc2, rfl, _, rfl⟩
            · have hc : ¬ (1 : Int) < 1 + i := fun z => hc (decide_eq_true z)
              have e : wordM lie s' p = s' := by
                unfold wordM
                rw [if_pos (by omega)]
              rw [e]
              exact ⟨.refl _, rfl, _, rfl⟩
          · rintro σ' H7 ⟨l7, v8, rfl⟩
            walk_at "rg"
            have l57 := l5.trans l7
            have g1 := l7.lst g1
            have gD := l7.lst gD
            have gA := gA.le l7
            have gE := gE.le l7
            have hb := l7.tup hb
            refine ⟨by omega, by omega, fun D2 hD2 => ?_⟩
            refine lc_data walk_range hD2 (by omega) (fun i : Nat => if (i : Int) ∉ p then some (.num (i : Int)) else none) (fun _ _ => True.intro) (fun i2 x H8 H9 hi2 l8 hy Yk Nk kY kN => ?_) (fun H8 zs l8 hzs hz => ?_)
            · obtain ⟨rfl, rfl⟩ := hy
              refine ⟨rfl, ?_⟩
              walk_at "rg"
              refine ⟨b, _, rfl, .inr (.of (l8.tup hb)), rfl, ints_flat p, ?_⟩
              rw [inV_ints]
              refine ⟨_, rfl, ?_⟩
              by_cases hc : (i2 : Int) ∈ p
              · rw [decide_eq_true hc]
                exact kN _ (.refl _) (if_neg (fun h => h hc))
              · rw [decide_eq_false hc]
                exact kY _ _ _ (.refl _) (if_pos hc) At.int
            · rw [Int.toNat_natCast, hear_fm] at hz
              have ez := hz.ints
              subst ez
              have hnL : p ∉ upTo n i ++ (pathsM n (i + 1)).take j := fun hm => by
                rcases List.mem_append.mp hm with h | h
                · have := ((mem_upTo hn).mp h).2.1
                  omega
                · obtain ⟨k, hk⟩ := List.mem_iff_getElem?.mp h
                  have hkj : k < j := by
                    have := (List.getElem?_eq_some_iff.mp hk).1
                    rw [List.length_take] at this
                    omega
                  rw [List.getElem?_take_of_lt hkj] at hk
                  have := nodup_ix (paths_nodup hn2 (by omega)) hk hp
                  omega
              have hndh := hear_nodup n p
              generalize hL : upTo n i ++ (pathsM n (i + 1)).take j = L at gE hnL
              have hLl : L.length ≤ 400 := by
                rw [← hL, List.length_append, List.length_take]
                omega
              have eL : upTo n i ++ (pathsM n (i + 1)).take (j + 1) = L ++ [p] := by
                rw [← hL, List.append_assoc]
                congr 1
                rw [List.take_add_one, hp]
                rfl
              refine ⟨D2, rfl, ⟨_, .of hzs⟩, for_it (n := (hear n p).length) (walk_listN (by rw [List.length_map])) (fun k σ H' => ∃ (v8 : Option V), σ = [some (.int n), some (.int m), some (sg s'), some (.ref d), some (.ref E), some (.int (1 + i)), some (.ref b), some (sg (wordM lie s' p)), v8, none] ∧ Le H H' ∧ H' E = some (.lst (es.map V.ref)) ∧ H' D1 = some (.lst ys) ∧ Ats H' ((pathsM n (i + 1)).map pk) ys ∧ H' D2 = some (.lst ((hear n p).map .int)) ∧ H' b = some (.tup (p.map .int)) ∧ Ears P w H' es (fun h => if (h : Int) ∈ (hear n p).take k then earM lie s' h (L ++ [p]) else earM lie s' h L))
                ⟨_, rfl, l57.trans l8, l8.lst g1, l8.lst gD, gA.le l8, hzs, l8.tup hb, by simpa using gE.le l8⟩ (fun k σ H' _ ⟨_, _, _, _, _, _, g, _⟩ => .of g) ?_ ?_⟩
              · rintro k x σ H9 H10 hk ⟨v8, rfl, l9, g1, gD, gA, gD2, hb, gE⟩ ⟨rfl, hx⟩
                rw [List.getElem?_map, List.getElem?_eq_getElem hk] at hx
                obtain rfl : V.int (hear n p)[k] = x := Option.some.inj hx
                have hxm : (hear n p)[k] ∈ hear n p := List.getElem_mem hk
                have htk : (hear n p).take (k + 1) = (hear n p).take k ++ [(hear n p)[k]] := List.take_succ_eq_append_getElem hk
                have hxn : (hear n p)[k] ∉ (hear n p).take k := fun hm => by
                  obtain ⟨k2, hk2⟩ := List.mem_iff_getElem?.mp hm
                  have hkj : k2 < k := by
                    have := (List.getElem?_eq_some_iff.mp hk2).1
                    rw [List.length_take] at this
                    omega
                  rw [List.getElem?_take_of_lt hkj] at hk2
                  have := nodup_ix hndh hk2 (List.getElem?_eq_getElem hk)
                  omega
                generalize (hear n p)[k] = x at hxm htk hxn
                obtain ⟨⟨x0, x1⟩, xp⟩ := mem_hear.mp hxm
                obtain ⟨e, he⟩ : ∃ e, es[x.toNat]? = some e := ⟨_, List.getElem?_eq_getElem (by omega)⟩
                walk_at "rg"
                have hL9 := hLi.le l9
                refine ⟨hL9.isDict, fun c hc2 => ?_⟩
                have lc : Le H10 (L2.upd H10 c (.tup [.ref b, .int x])) := .new hc2
                have hv := hlie p x
                refine ⟨_, .inr ⟨_, _, c, hL9.le lc, rfl, kk_at upd_same (lc.tup hb), kk_depth _ _, hv.symm⟩, ?_⟩
                rw [getD_sg, ← told_word]
                have hN := (gE _ e he).le lc
                have hN : ND P w _ e (if ((x.toNat : Nat) : Int) ∈ (hear n p).take k then earM lie s' ((x.toNat : Nat) : Int) (L ++ [p]) else earM lie s' ((x.toNat : Nat) : Int) L) := hN
                rw [show ((x.toNat : Nat) : Int) = x by omega, if_neg hxn] at hN
                refine ⟨E, _, _, .ref e, rfl, rfl, .of (lc.lst g1), at_of (j := x.toNat) (by omega) (by rw [List.getElem?_map, he]; rfl), e, rfl, .inr ⟨_, pk p, b, hN, rfl, pk_at (lc.tup hb), pk_depth p, s300 _ (Nat.le_trans (ear_length _ _ _ _) (by omega)), fun o ho => ?_⟩⟩
                have hvn : valV (earM lie s' x L) (pk p) = none := by rw [ear_val, if_neg (fun z => hnL z.1)]
                rw [putK_new hvn, show earM lie s' x L ++ [(pk p, sg (toldM lie s' x p))] = earM lie s' x (L ++ [p]) by rw [ear_app, if_neg xp]] at ho
                have hem := List.mem_of_getElem? he
                obtain ⟨_, o0, hr0, _⟩ := id hN
                have tp : Tups (L2.upd H10 c (.tup [.ref b, .int x])) (L2.upd (L2.upd H10 c (.tup [.ref b, .int x])) e (raw e o)) := tups_upd hr0 (fun _ z => nomatch z)
                have keepL : ∀ {a : Addr} {xs : List V}, H10 a = some (.lst xs) → (L2.upd (L2.upd H10 c (.tup [.ref b, .int x])) e (raw e o)) a = some (.lst xs) := fun {a xs} h => by
                  rw [upd_ne (fun z => ?_)]
                  · exact lc.lst h
                  · rw [← z, lc.lst h] at hr0
                    cases hr0
                refine ⟨(l9.trans lc).mut (hne e hem).1, keepL g1, keepL gD, gA.keep (fun a xs h => tp a xs (lc.tup h)) _ _, keepL gD2, tp _ _ (lc.tup hb), ?_⟩
                intro h e' he'
                have q2 := (gE.le lc).put nd he ho h e' he'
                have q2 : ND P w _ e' (if h = x.toNat then earM lie s' x (L ++ [p]) else if (h : Int) ∈ (hear n p).take k then earM lie s' h (L ++ [p]) else earM lie s' h L) := q2
                show ND P w _ e' (if (h : Int) ∈ (hear n p).take (k + 1) then earM lie s' h (L ++ [p]) else earM lie s' h L)
                rw [htk]
                by_cases hhx : h = x.toNat
                · have ehx : (h : Int) = x := by omega
                  rw [if_pos hhx] at q2
                  rw [if_pos (by rw [ehx]; simp), ehx]
                  exact q2
                · rw [if_neg hhx] at q2
                  by_cases hm : (h : Int) ∈ (hear n p).take k
                  · rw [if_pos hm] at q2
                    rw [if_pos (List.mem_append_left _ hm)]
                    exact q2
                  · rw [if_neg hm] at q2
                    rw [if_neg (fun z => ?_)]
                    · exact q2
                    · rcases List.mem_append.mp z with z | z
                      · exact hm z
                      · have := List.mem_singleton.mp z
                        omega
              · rintro σ H9 ⟨v8, rfl, l9, g1, gD, gA, gD2, hb, gE⟩
                refine ⟨_, _, _, rfl, l9, g1, gD, gA, ?_⟩
                rw [List.take_length] at gE
                rw [eL]
                intro h e he
                have hN := gE h e he
                have hh : h < es.length := (List.getElem?_eq_some_iff.mp he).1
                by_cases hm : (h : Int) ∈ p
                · show ND P w H9 e (earM lie s' (h : Int) (L ++ [p]))
                  rw [ear_app, if_pos hm]
                  have hN : ND P w H9 e (if (h : Int) ∈ hear n p then earM lie s' h (L ++ [p]) else earM lie s' h L) := hN
                  rw [if_neg (fun z => (mem_hear.mp z).2 hm)] at hN
                  exact hN
                · have hN : ND P w H9 e (if (h : Int) ∈ hear n p then earM lie s' h (L ++ [p]) else earM lie s' h L) := hN
                  rw [if_pos (mem_hear.mpr ⟨by omega, hm⟩)] at hN
                  exact hN
        · rintro σ H5 ⟨v6, v7, v8, rfl, l5, g1, gD, gA, gE⟩
          rw [← List.length_map (f := pk), ← hA.length, hyl, List.take_length, ← upTo_succ] at gE
          exact ⟨_, _, _, _, rfl, l5, g1, gE⟩
      · rintro σ H2 ⟨v5, v6, v7, v8, rfl, l2, g1, gE⟩
        walk_at "rg"
        rw [upTo_all hn] at gE
        exact q E H2 es hE l2 g1 hl nd (fun e he => (hne e he).1) gE
def spOf (P : Program) (w : World) : Sp := fun vs H Q _ => ∃ (d : Addr) (k n m : Nat) (ls : List Int) (kvs : List (D × V)), vs = [.ref d, .int k] ∧ ND P w H d kvs ∧ LiesK n m ls kvs ∧ kvs.length ≤ 3000 ∧ ∀ d' H', H d' = none → Le H H' → ND P w H' d' (ofSize k kvs) → Q (.ref d') H'
abbrev s_law_of : Stmt := top 40
theorem sc_law_of : FnScope ["_law_lies_here", "_law_size", "_law_found", "_law_path", "_law_hearer"] ["_law_lies_here", "_law_size"] (defScope s_law_of) := ⟨rfl, rfl, rfl, by decide +kernel, rfl, by decide +kernel, by decide +kernel⟩
theorem ok_law_of {f : Addr} {fd : FuncData} (F : Fun K "_law_of" "_law_of" s_law_of f fd) (T : Bt mg) : FnOk P w K mg base CX0 1 f fd ["_law_lies_here", "_law_size"] (spOf P w) := by
  refine F.ok sc_law_of (fun vs H Q E h => ?_) (fun cdv A outer s H vs Q E hr h => ?_)
  · obtain ⟨d, k, n, m, ls, kvs, rfl, _⟩ := h
    rfl
  · obtain ⟨d, k, n, m, ls, kvs, rfl, hN, hK, hl, q⟩ := h
    have hu := hr.units
    refine ⟨_, (pss_cons (ps_set (i := 2) sc_law_of.nd rfl (Or.inl rfl) pe_nnew)
        (pss_cons (ps_for PassesOwn.never rfl (pi_nkeys (pv 0)) (pg_tupK (K := K) (n := 2) rfl rfl (pgs_cons (pg_name (i := 3) sc_law_of.nd rfl (Or.inl rfl)) (pgs_cons (pg_name (i := 4) sc_law_of.nd rfl (Or.inl rfl)) pgs_nil)))
          (pss_one (ps_if (pt_cmpR op_eq (pe_callB (len_seqK (K := K) rfl) (by rfl) T.b_len bb_len (pa_cons (pv 3) pa_nil)) (pv 1) (nomark _))
            (pss_one (ps_nputK (P := P) (w := w) rfl rfl hu (pv 2) (pe_tup (pa_cons (pv 3) (pa_cons (pv 4) pa_nil))) (pe_ngetK (P := P) (w := w) rfl rfl hu (pv 0) (pe_tup (pa_cons (pv 3) (pa_cons (pv 4) pa_nil))) (fun _ _ => rfl)) rfl))
            pss_nil)))
        (pss_one (ps_ret (pv 2))))), ?_⟩
    walk_at "rg"
    intro D hD hDs
    obtain ⟨hsy, o, ho, hI⟩ := id hN
    obtain ⟨evs, hev, hel, hent⟩ := ents_ND hI
    have hnd := hN.nodup
    have l0 : Le H (L2.upd H D (raw D newD)) := .new hD
    refine ⟨o, l0.ext ho, _, hev.keys, hsy, ?_⟩
    have hkl : (evs.map (·.1)).length = kvs.length := by rw [List.length_map, hel]
    refine for_it walk_n (fun j σ H' => ∃ v3 v4 : Option V, σ = [some (.ref d), some (.int k), some (.ref D), v3, v4] ∧ Le H H' ∧ ND P w H' D (ofSize k (kvs.take j)))
      ⟨_, _, rfl, l0, hDs, newD, upd_same, newD_ND P w _⟩ (fun j σ H' _ ⟨_, _, _, l, _⟩ => l.ext ho) ?_ ?_
    · rintro j y σ H2 H3 hj ⟨v3, v4, rfl, l2, N2⟩ ⟨rfl, hy⟩
      rw [List.getElem?_map] at hy
      obtain ⟨⟨ke, v⟩, hkv, rfl⟩ := Option.map_eq_some_iff.mp hy
      obtain ⟨dk, bb, hdk, ek, hAt, hdp⟩ := hent j ke v hkv
      obtain ⟨p, h, o2, e2, hp, hpl, hpl2, hls, hh, hs⟩ := hK _ (List.mem_of_getElem? hdk)
      injection e2 with e2 e3
      subst e2 e3
      obtain ⟨c, b, e4, hc, hb⟩ := kk_of hAt
      have e4 : ke = .ref c := e4
      subst e4
      have htk : kvs.take (j + 1) = kvs.take j ++ [(kk p h, sg o2)] := by
        rw [List.take_add_one, hdk]
        rfl
      have hos : ofSize k (kvs.take (j + 1)) = if p.length = k then ofSize k (kvs.take j) ++ [(kk p h, sg o2)] else ofSize k (kvs.take j) := by
        rw [htk]
        unfold ofSize
        rw [List.filter_append]
        by_cases q : p.length = k
        · rw [if_pos q]
          simp [size_kk, q]
        · rw [if_neg q]
          simp [size_kk, q]
      walk_at "rg"
      refine ⟨[.ref b, .int h], .of (l2.tup hc), rfl, _, _, rfl, _, _, rfl, rfl, b, _, rfl, .inr (.of (l2.tup hb)), rfl, ?_⟩
      rw [List.length_map, hos]
      by_cases q : p.length = k
      · rw [decide_eq_true (by rw [q]), if_pos q]
        refine iteT fun c1 hc1 => ?_
        have l3 : Le H (L2.upd H3 c1 (.tup [.ref b, .int h])) := l2.trans (.new hc1)
        refine ⟨sg o2, .inr ⟨kvs, kk p h, c1, hN.le l3, rfl, kk_at upd_same (l3.tup hb), kk_depth p h, (valV_at hnd hdk).symm⟩, fun c2 hc2 => ?_⟩
        have l4 : Le H3 (L2.upd (L2.upd H3 c1 (.tup [.ref b, .int h])) c2 (.tup [.ref b, .int h])) := (Le.new hc1).trans (.new hc2)
        have N4 := N2.le l4
        have hvn : valV (ofSize k (kvs.take j)) (kk p h) = none := by
          rw [ofSize_val k p h q]
          cases e : valV (kvs.take j) (kk p h) with
          | none => rfl
          | some v =>
            obtain ⟨i, hi⟩ := List.mem_iff_getElem?.mp (valV_mem e)
            have hij : i < j := by
              have := (List.getElem?_eq_some_iff.mp hi).1
              rw [List.length_take] at this
              omega
            rw [List.getElem?_take_of_lt hij] at hi
            have := nodup_ix hnd (show (kvs.map (·.1))[i]? = some (kk p h) by rw [List.getElem?_map, hi]; rfl) (show (kvs.map (·.1))[j]? = some (kk p h) by rw [List.getElem?_map, hdk]; rfl)
            omega
        have hz : (ofSize k (kvs.take j)).length < sizeLine := by
          have h1 : (ofSize k (kvs.take j)).length ≤ (kvs.take j).length := List.length_filter_le _ _
          rw [List.length_take] at h1
          rw [sizeLine_eq]
          omega
        refine .inr ⟨_, kk p h, c2, N4, rfl, kk_at upd_same ((l2.trans l4).tup hb), kk_depth p h, hz, fun o3 ho3 => ?_⟩
        rw [putK_new hvn] at ho3
        exact ⟨(l2.trans l4).mut hD, nd_raw (H' := L2.upd (L2.upd H3 c1 (.tup [.ref b, .int h])) c2 (.tup [.ref b, .int h])) N4 ho3⟩
      · rw [decide_eq_false (fun e => q (by injection e with e; omega)), if_neg q]
        exact iteF ⟨l2, N2⟩
    · rintro σ H2 ⟨v3, v4, rfl, l2, N2⟩
      walk_at "rg"
      rw [hkl, List.take_length] at N2
      exact q D H2 hD l2 N2
def spSame : Sp := fun vs H Q _ => ∃ (a b : Option Str), vs = [sg a, sg b] ∧ Q (.bl (decide (a = b))) H
abbrev s_law_same : Stmt := top 41
theorem sc_law_same : FnScope ["_law_found", "_law_due"] ["_law_found", "_law_due"] (defScope s_law_same) := ⟨rfl, rfl, rfl, by decide +kernel, rfl, by decide +kernel, by decide +kernel⟩
theorem ty_sg {K : PySem.W.Frag} {H : Hp} (o : Option Str) : ∃ t, TyX K H (sg o) t ∧ PySem.W.kitOne K t (.type "str") = some o.isSome := by
  cases o with
  | none => exact ⟨_, .base .non, kit_ty (a := "NoneType") (b := "str") (r := false) (by decide +kernel)⟩
  | some x => exact ⟨_, .base (.str x), kit_ty (a := "str") (b := "str") (r := true) (by decide +kernel)⟩
theorem ok_law_same {f : Addr} {fd : FuncData} (F : Fun K "_law_same" "_law_same" s_law_same f fd) (T : Bt mg) : FnOk P w K mg base CX0 1 f fd ["_law_found", "_law_due"] spSame := by
  refine F.ok sc_law_same (fun vs H Q E h => ?_) (fun cdv A outer s H vs Q E hr h => ?_)
  · obtain ⟨a, b, rfl, _⟩ := h
    rfl
  · obtain ⟨a, b, rfl, q⟩ := h
    refine ⟨_, (pss_cons (ps_if (pt_cmpR op_isN (pv 1) pe_non (nomark _))
          (pss_one (ps_ret (pe_cmpR op_isN (pv 0) pe_non (nomark _))))
          pss_nil)
        (pss_one (ps_ret (pe_and (pe_callB (isiK (K := K) rfl) (by rfl) T.b_isinstance bb_isinstance (pa_cons (pv 0) (pa_cons (pe_bltn (v := .ty "str") (by rfl) T.b_str bb_str rfl) pa_nil))) (pe_one (pe_cmpR op_eq (pv 0) (pv 1) (nomark _))))))), ?_⟩
    refine ⟨_, rfl, rfl, _, rfl, ?_⟩
    cases b with
    | none =>
      refine iteT ⟨_, rfl, rfl, ?_⟩
      rw [show V.non = sg none from rfl, dec_sg]
      exact q
    | some y =>
      obtain ⟨t, ht, hk⟩ := ty_sg (K := K) (H := H) a
      refine iteF ⟨_, rfl, _, _, _, _, _, rfl, .ty "str", ht, hk, _, rfl, ?_⟩
      cases a with
      | none => exact iteF q
      | some x =>
        refine iteT ⟨_, rfl, _, rfl, scal_sg (some x) (some y), ?_⟩
        rw [dec_sg (some x) (some y)]
        exact q
def SgL (k : List (D × V)) : Prop := ∀ e ∈ k, ∃ (p : List Int) (o : Option Str), e = (pk p, sg o)
def spLTold (P : Program) (w : World) : Sp := fun vs H Q _ => ∃ (a b : Addr) (k : List (D × V)), vs = [.ref a, .ref b] ∧ ND P w H a k ∧ ND P w H b k ∧ SgL k ∧ k.length ≤ 1000 ∧ ∀ H', Le H H' → Q (.bl true) H'
abbrev s_law_told : Stmt := top 42
abbrev n_law_told : List Str := ["_law_found", "_law_due", "_law_path"]
theorem sc_law_told : FnScope ["_law_found", "_law_due", "_law_path"] ["_law_found", "_law_due"] (defScope s_law_told) := ⟨rfl, rfl, rfl, by decide +kernel, rfl, by decide +kernel, by decide +kernel⟩
theorem ok_law_told {f f1 : Addr} {fd fd1 : FuncData} (F : Fun K "_law_told" "_law_told" s_law_told f fd) (T : Bt mg)
    (c_law_same : Cal P w K mg base CX0 1 "_law_same" ["_law_found", "_law_due"] spSame f1 fd1) : FnOk P w K mg base CX0 2 f fd ["_law_found", "_law_due"] (spLTold P w) := by
  refine F.ok sc_law_told (fun vs H Q E h => ?_) (fun cdv A outer s H vs Q E hr h => ?_)
  · obtain ⟨a, b, k, rfl, _⟩ := h
    rfl
  · obtain ⟨a, b, k, rfl, ha, hb, hk, hkl, q⟩ := h
    have hu := hr.units
    obtain ⟨has, oa, hoa, hIa⟩ := id ha
    obtain ⟨hbs, ob, hob, hIb⟩ := id hb
    have hnd := ha.nodup
    refine ⟨_, (pss_cons (ps_if (PW.pt (pw_or (pt_not (pt_val (pe_callB (isiNK (K := K) rfl) (by rfl) T.b_isinstance bb_isinstance (pa_cons (pv 0) (pa_cons (pe_bltn (v := .ty "dict") (by rfl) T.b_dict bb_dict rfl) pa_nil))))) (pw_or (pt_cmpR op_ne (pe_callB call_lenN (by rfl) T.b_len bb_len (pa_cons (pv 0) pa_nil)) (pe_callB call_lenN (by rfl) T.b_len bb_len (pa_cons (pv 1) pa_nil)) (nomark _)) (pw_or1 (pt_cmpR (neNK (P := P) (w := w) rfl rfl hu) (pv 0) (pv 1) (nomark _))))))
          (pss_one (ps_ret pe_bl))
          pss_nil)
        (pss_one (ps_ret (pe_callB (allK (K := K) rfl rfl) (by rfl) T.b_all bb_all (pa_cons (pe_lc (own := [("_law_path", 2)]) (g := gName 2) rfl sc_law_told.nd (pi_listK (K := K) rfl (pe_callTy (call_listN rfl) (by rfl) T.b_list bb_list (pa_cons (pv 1) pa_nil))) (blkOk_by (N := n_law_told) (sc := defScope s_law_told) (own := [("_law_path", 2)]) (by decide +kernel)) (fun _ _ _ _ _ => (pg_name (i := 2) sc_law_told.nd rfl (Or.inl rfl))) (fun _ _ _ _ _ => pts_nil) (fun _ _ _ _ _ => (pe_own c_law_same (hr.mono (by omega)) rfl (pa_cons (pe_ngetK (P := P) (w := w) rfl rfl hu (pv 0) (pv 2) (fun _ _ => rfl)) (pa_cons (pe_ngetK (P := P) (w := w) rfl rfl hu (pv 1) (pv 2) (fun _ _ => rfl)) pa_nil))))) pa_nil))))), ?_⟩
    walk_at "rg"
    refine ⟨a, _, _, true, rfl, .ty "dict", ha.isDict, kit_ty (a := "dict") (b := "dict") (r := true) (by decide +kernel), _, rfl, iteF ⟨a, oa, k.length, rfl, hoa, size_ND hIa, has, by rw [sizeLine_eq]; omega, b, ob, k.length, rfl, hob, size_ND hIb, hbs, by rw [sizeLine_eq]; omega, rfl, ?_⟩⟩
    rw [decide_eq_true rfl]
    refine iteF ⟨a, b, k, k, rfl, rfl, ha, hb, rfl, fun e he => ?_, _, rfl, iteF ?_⟩
    · obtain ⟨p, o, rfl⟩ := hk e he
      obtain ⟨j, hj⟩ := List.mem_iff_getElem?.mp he
      exact ⟨valV_at hnd hj, flatB_sg o⟩
    · obtain ⟨ks, hks, hkA⟩ := keys_ND hIb
      have hkn := hkA.length
      rw [List.length_map] at hkn
      refine ⟨b, ob, ks, rfl, hob, hks, hbs, by rw [sizeLine_eq]; omega, fun l hl => ?_⟩
      have l1 : Le H (L2.upd H l (.lst ks)) := .new hl
      have hl1 : (L2.upd H l (.lst ks)) l = some (.lst ks) := upd_same
      generalize (L2.upd H l (.lst ks)) = H1 at l1 hl1 ⊢
      refine ⟨l, rfl, ⟨_, .of hl1⟩, fun D hD => ?_⟩
      refine lc_trues (walk_listN rfl) hD (by omega) (fun H' l' => .of (l'.lst hl1)) (fun i x H2 H3 hi l2 hy Yk Nk kY => ?_) (fun H2 l2 h2 => ?_)
      · obtain ⟨rfl, hx⟩ := hy
        refine ⟨rfl, ?_⟩
        have l12 := l1.trans l2
        obtain ⟨d, hd, hAx⟩ := (hkA.le l12).get' hx
        rw [List.getElem?_map] at hd
        obtain ⟨e, hp, rfl⟩ := Option.map_eq_some_iff.mp hd
        obtain ⟨p, o, rfl⟩ := hk e (List.mem_of_getElem? hp)
        obtain ⟨c, rfl, hc⟩ := pk_of hAx
        have hv := valV_at hnd hp
        walk_at "rg"
        refine ⟨_, .inr ⟨_, pk p, c, ha.le l12, rfl, pk_at hc, pk_depth p, hv.symm⟩, _, .inr ⟨_, pk p, c, hb.le l12, rfl, pk_at hc, pk_depth p, hv.symm⟩, o, o, rfl, ?_⟩
        rw [decide_eq_true rfl]
        exact kY _ (.refl _)
      · refine ⟨D, _, rfl, .of h2, ?_⟩
        rw [all_true]
        exact q _ (l1.trans l2)
end

/-! the readings made plain -/
local macro_rules | `(tactic| walk_at "rd") => `(tactic| simp (config := {decide := true}) only [tSeq, tAsg, gName, tC, tVar, tOp, tUn, rI0, rI, rU, tLst, tTup, tNil, tCons, tCB, tTest, tB, tIfS, tRet, tNext, tDrop, tAnd, tOr, tNot, tAndV, tOrV, tNotV, tIf, tSl, tPart, tNoPart, L2.start, List.map, List.length_cons, List.length_nil, List.replicate, List.set_cons_succ, List.set_cons_zero, List.cons_append, List.nil_append, List.append_nil, List.getElem?_cons_succ, List.getElem?_cons_zero, exists_eq_left', Option.some.injEq, V.int.injEq, V.str.injEq, V.bl.injEq, V.ref.injEq, List.cons.injEq, exists_and_left, exists_eq_left, true_and, and_true, and_self, and_assoc, rIxS, rMulS, rEq, rNe, scal_int, scal_str, scal_bl, CDiv, CMul, Nat.zero_le, true_or, or_true, Nat.zero_add, Nat.reduceAdd, Nat.reduceSub, Int.zero_add, tCall, tYes, wipe, reduceIte, if_true, if_false, Bool.false_eq_true, tBM, tBM0, rAppend, gSub, rSetL, tNGet, sNPut, tNGet2, tNNew])
local macro_rules | `(tactic| walk_at "rg") => `(tactic| simp (config := {decide := true}) only [for_eq, lc_eq, lc2_eq, dc1_eq, dc2_eq, tCallS, tMakeS, tMake, tNClear, tAllL, tAllI, tLenSetT, iNItems, iEnumA, tMethE, tMeth, tFld, sFld, sFldAug, rAdd, iStr, iEnum, iPerm, tChain, tLstRg, tRg1, tRg2, iRng1, iRng2, iList, iTup, iNKeys, List.getElem?_nil, List.length_nil, StX.tStar, rCatT, gTup, gCons, gNil, tSeq, tAsg, gName, tC, tVar, tOp, tUn, rI0, rI, rU, tLst, tTup, tNil, tCons, tCB, tTest, tB, tIfS, tRet, tNext, tDrop, tAnd, tOr, tNot, tAndV, tOrV, tNotV, tIf, tSl, tPart, tNoPart, L2.start, List.map, List.length_cons, List.length_nil, List.replicate, List.set_cons_succ, List.set_cons_zero, List.cons_append, List.nil_append, List.append_nil, List.getElem?_cons_succ, List.getElem?_cons_zero, exists_eq_left', Option.some.injEq, V.int.injEq, V.str.injEq, V.bl.injEq, V.ref.injEq, List.cons.injEq, exists_and_left, exists_eq_left, true_and, and_true, and_self, and_assoc, rIxS, rMulS, rEq, rNe, scal_int, scal_str, scal_bl, CDiv, CMul, Nat.zero_le, true_or, or_true, Nat.zero_add, Nat.reduceAdd, Nat.reduceSub, Int.zero_add, tCall, tYes, wipe, reduceIte, if_true, if_false, Bool.false_eq_true, tBM, tBM0, rAppend, gSub, rSetL, tNGet, sNPut, tNGet2, tNNew])
/-! lies of one size are few -/
theorem hear_less {n : Nat} {p : List Int} (hp : IsP n p) : (hear n p).length + 1 ≤ n := by
  have h0 : (0 : Int) ∈ p := List.mem_of_mem_head? (by rw [hp.hd]; rfl)
  exact nodup_len n (0 :: hear n p) (List.nodup_cons.mpr ⟨fun z => (mem_hear.mp z).2 h0, hear_nodup n p⟩) fun x hx => by
    rcases List.mem_cons.mp hx with e | e
    · rw [e]
      exact hp.mem 0 h0
    · exact (mem_hear.mp e).1
theorem LiesK.small1 {n m k : Nat} {ls : List Int} {kvs : List (D × V)} (h : LiesK n m ls kvs) (hn : 2 ≤ n) (hn2 : n ≤ 10) (hk1 : 1 ≤ k) (hk3 : k ≤ 3) (hs : ∀ p y v, (kk p y, v) ∈ kvs → p.length = k) (nd : (kvs.map (·.1)).Nodup) : kvs.length ≤ 900 := by
  have h1 := sub_len (ys := ((pathsM n k).map fun p => (hear n p).map (kk p)).flatten) nd fun q hq => by
    obtain ⟨e, he, rfl⟩ := List.mem_map.mp hq
    obtain ⟨p, y, o, ee, hp, hl, hl2, _, hy, _⟩ := h e he
    rw [ee]
    rw [ee] at he
    have := hs p y _ he
    exact List.mem_flatten.mpr ⟨_, List.mem_map.mpr ⟨p, (mem_paths hn hk1).mpr ⟨hp, this, by omega⟩, rfl⟩, List.mem_map.mpr ⟨y, hy, rfl⟩⟩
  rw [List.length_map] at h1
  have h2 := flat_len (c := 9) (l := (pathsM n k).map fun p => (hear n p).map (kk p)) fun x hx => by
    obtain ⟨p, hp, rfl⟩ := List.mem_map.mp hx
    rw [List.length_map]
    have := hear_less ((mem_paths hn hk1).mp hp).1
    omega
  rw [List.length_map] at h2
  have h3 := paths_length (n := n) (k := k) hn2 hk3
  omega
section
variable {P : Program} {w : World} {K : PySem.W.Frag} {mg : Str → Option Value} {base : Heap}
/-! the law of k05 -/
def spLawR (K : PySem.W.Frag) (P1 P2 : Addr) : Sp := fun vs H Q _ => ∃ (a : Addr) (ns : List Int), vs = [.ref a] ∧ SqL K H a (ns.map V.int) ∧ ns.length ≤ 63 ∧ GxR.TabG H P1 ∧ GxR.TabG H P2 ∧ ∀ H', Q (.bl true) H'
abbrev s_law : Stmt := top 50
abbrev n_law : List Str := ["_law_script", "_law_hands_here", "_law_most", "_law_signs_here", "_law_liars_here", "_law_lies_here", "_law_table_here", "_law_size", "_law_cell", "_law_good", "_law_wrong", "_law_spoilt_here", "_law_due", "_law_ears", "_law_hand"]
theorem sc_law : FnScope ["_law_script", "_law_hands_here", "_law_most", "_law_signs_here", "_law_liars_here", "_law_lies_here", "_law_table_here", "_law_size", "_law_cell", "_law_good", "_law_wrong", "_law_spoilt_here", "_law_due", "_law_ears", "_law_hand"] ["_law_script"] (defScope s_law) := ⟨rfl, rfl, rfl, by decide +kernel, rfl, by decide +kernel, by decide +kernel⟩
theorem ok_law {f C P1 P2 C0 C1 C2 f1 f2 f3 f4 f5 f6 f7 f8 f9 f10 f11 f12 f13 f14 : Addr} {fd fd1 fd2 fd3 fd4 fd5 fd6 fd7 fd8 fd9 fd10 fd11 fd12 fd13 fd14 : FuncData} (F : Fun K "law" "law" s_law f fd) (T : Bt mg) (TC : TabC K C)
    (mk_Table : Mk K C f1) (fx_Table : FnOk P w K mg base (L2.CX P w) 5 f1 fd1 ["self", "hands", "most", "sign", "liars"] (spInit K P w C P1 C0 C1 C2)) (g_Table : mg "Table" = some (.ref C)) (bd_Table : Binds K fd1 ["self", "hands", "most", "sign", "liars"] [])
    (m_told : MCal P w K mg base (L2.CX P w) 4 C "told" ["self", "hand"] (spTold K P w C C2) f2 fd2)
    (c_law_cell_at : Cal P w K mg base CX0 1 "_law_cell_at" ["_law_script", "_law_k"] (spCell K) f3 fd3) (c_law_table : Cal P w K mg base CX0 1 "_law_table" ["_law_cell"] spTable f4 fd4)
    (c_law_signs : Cal P w K mg base CX0 1 "_law_signs" ["_law_cell"] spSigns f5 fd5) (c_law_liars : Cal P w K mg base CX0 1 "_law_liars" ["_law_cell", "_law_hands_here", "_law_many"] spLiars f6 fd6)
    (c_law_lies : Cal P w K mg base CX0 3 "_law_lies" ["_law_script", "_law_hands_here", "_law_most", "_law_signs_here", "_law_liars_here"] (spLies K P w) f7 fd7) (c_law_of : Cal P w K mg base CX0 1 "_law_of" ["_law_lies_here", "_law_size"] (spOf P w) f8 fd8)
    (c_law_play : Cal P w K mg base CX0 2 "_law_play" ["_law_hands_here", "_law_most", "_law_sign", "_law_lies_here"] (spPlay P w) f9 fd9) (c_law_told : Cal P w K mg base CX0 2 "_law_told" ["_law_found", "_law_due"] (spLTold P w) f10 fd10)
    (c_law_asked : Cal P w K mg base CX0 7 "_law_asked" ["_law_way", "_law_table_here", "_law_thing"] (spAsked K P w C P1 P2) f11 fd11) (c_law_wrong_pair : Cal P w K mg base CX0 2 "_law_wrong_pair" ["_law_cell", "_law_hands_here", "_law_size", "_law_liars_here"] (spWrong K) f12 fd12)
    (c_law_spoilt : Cal P w K mg base CX0 1 "_law_spoilt" ["_law_lies_here", "_law_cell", "_law_wrong"] (spSpoilt K P w) f13 fd13) (c_law_made : Cal P w K mg base CX0 8 "_law_made" ["_law_cell", "_law_hands_here", "_law_most", "_law_sign"] (spMade K P1) f14 fd14)
    {f15 : Addr} {fd15 : FuncData} (c_law_hands : Cal P w K mg base CX0 8 "_law_hands" ["_law_table_here", "_law_hands_here", "_law_cell", "_law_is_over"] (spHandsL K P w C) f15 fd15) :
    FnOk P w K mg base CX0 9 f fd ["_law_script"] (spLawR K P1 P2) := by
  refine F.ok sc_law (fun vs H Q E h => ?_) (fun cdv A outer s H vs Q E hr h => ?_)
  · obtain ⟨a, ns, rfl, _⟩ := h
    rfl
  · obtain ⟨a, ns, rfl, hS, hl, hT1, hT2, qq⟩ := h
    have hu := hr.units
    refine ⟨_, (pss_cons (ps_if (pt_cmpR op_eq (pe_callB (len_seqK (K := K) rfl) (by rfl) T.b_len bb_len (pa_cons (pv 0) pa_nil)) pe_int (nomark _))
          (pss_one (ps_ret pe_bl))
          pss_nil)
        (pss_cons (ps_asg (pe_own c_law_table (hr.mono (by omega)) rfl (pa_cons (pe_own c_law_cell_at (hr.mono (by omega)) rfl (pa_cons (pv 0) (pa_cons pe_int pa_nil))) pa_nil)) (pg_tupK (K := K) (n := 2) rfl rfl (pgs_cons (pg_name (i := 1) sc_law.nd rfl (Or.inl rfl)) (pgs_cons (pg_name (i := 2) sc_law.nd rfl (Or.inl rfl)) pgs_nil))))
        (pss_cons (ps_set (i := 3) sc_law.nd rfl (Or.inl rfl) (pe_own c_law_signs (hr.mono (by omega)) rfl (pa_cons (pe_own c_law_cell_at (hr.mono (by omega)) rfl (pa_cons (pv 0) (pa_cons pe_int pa_nil))) pa_nil)))
        (pss_cons (ps_set (i := 4) sc_law.nd rfl (Or.inl rfl) (pe_own c_law_liars (hr.mono (by omega)) rfl (pa_cons (pe_own c_law_cell_at (hr.mono (by omega)) rfl (pa_cons (pv 0) (pa_cons pe_int pa_nil))) (pa_cons (pv 1) (pa_cons (pe_op op_mod (pe_own c_law_cell_at (hr.mono (by omega)) rfl (pa_cons (pv 0) (pa_cons pe_int pa_nil))) (pe_op op_add (pv 1) pe_int)) pa_nil)))))
        (pss_cons (ps_set (i := 5) sc_law.nd rfl (Or.inl rfl) (pe_own c_law_lies (hr.mono (by omega)) rfl (pa_cons (pv 0) (pa_cons (pv 1) (pa_cons (pv 2) (pa_cons (pv 3) (pa_cons (pv 4) pa_nil)))))))
        (pss_cons (ps_if (pt_not (pt_val (pe_own c_law_made (hr.mono (by omega)) rfl (pa_cons (pe_own c_law_cell_at (hr.mono (by omega)) rfl (pa_cons (pv 0) (pa_cons pe_int pa_nil))) (pa_cons (pv 1) (pa_cons (pv 2) (pa_cons (pe_ix (ix_listK (K := K) rfl) (pv 3) pe_int (fun _ _ => rfl)) pa_nil)))))))
          (pss_one (ps_ret pe_bl))
          pss_nil)
        (pss_cons (ps_set (i := 6) sc_law.nd rfl (Or.inr rfl) (pe_makeS mk_Table fx_Table (hr.mono (by omega)) rfl g_Table bd_Table takes0 (pa_cons (pv 1) (pa_cons (pv 2) (pa_cons (pe_ix (ix_listK (K := K) rfl) (pv 3) pe_int (fun _ _ => rfl)) (pa_cons (pv 4) pa_nil))))))
        (pss_cons (ps_for PassesOwn.never rfl (pi_range2 (by rfl) T.b_range (pa_cons pe_int (pa_cons (pe_op op_add (pv 2) pe_int) pa_nil))) (pg_name (i := 7) sc_law.nd rfl (Or.inl rfl))
          (pss_cons (ps_set (i := 8) sc_law.nd rfl (Or.inl rfl) (pe_own c_law_cell_at (hr.mono (by omega)) rfl (pa_cons (pv 0) (pa_cons (pe_op op_add pe_int (pv 7)) pa_nil))))
          (pss_cons (ps_if (pt_not (pt_val (pe_own c_law_hands (hr.mono (by omega)) rfl (pa_cons (pv 6) (pa_cons (pv 1) (pa_cons (pv 8) (pa_cons pe_bl pa_nil)))))))
            (pss_one (ps_ret pe_bl))
            pss_nil)
          (pss_cons (ps_set (i := 9) sc_law.nd rfl (Or.inl rfl) (pe_own c_law_of (hr.mono (by omega)) rfl (pa_cons (pv 5) (pa_cons (pv 7) pa_nil))))
          (pss_cons (ps_set (i := 10) sc_law.nd rfl (Or.inl rfl) (pe_own c_law_wrong_pair (hr.mono (by omega)) rfl (pa_cons (pe_op op_fdiv (pv 8) pe_int) (pa_cons (pv 1) (pa_cons (pv 7) (pa_cons (pv 4) pa_nil))))))
          (pss_cons (ps_asg (pe_own c_law_spoilt (hr.mono (by omega)) rfl (pa_cons (pv 9) (pa_cons (pv 8) (pa_cons (pv 10) pa_nil)))) (pg_tupK (K := K) (n := 2) rfl rfl (pgs_cons (pg_name (i := 11) sc_law.nd rfl (Or.inl rfl)) (pgs_cons (pg_name (i := 12) sc_law.nd rfl (Or.inl rfl)) pgs_nil))))
          (pss_join (ps_if (pt_cmpR op_ne (pv 12) pe_str (nomark _))
            (pss_one (ps_if (PW.pt (pw_or (pt_cmpR op_ne (pe_own c_law_asked (hr.mono (by omega)) rfl (pa_cons pe_int (pa_cons (pv 6) (pa_cons (pv 11) pa_nil)))) (pv 12) (nomark _)) (pw_or1 (pt_cmpR op_ne (pe_fldK (K := K) rfl (pv 6) rfl) (pe_op op_sub (pv 7) pe_int) (nomark _)))))
                (pss_one (ps_ret pe_bl))
                pss_nil))
            pss_nil)
          (pss_one (ps_if (pt_cmpR op_ne (pe_own c_law_asked (hr.mono (by omega)) rfl (pa_cons pe_int (pa_cons (pv 6) (pa_cons (pv 9) pa_nil)))) pe_str (nomark _))
            (pss_one (ps_ret pe_bl))
            pss_nil)))))))))
        (pss_cons (ps_if (PW.pt (pw_or (pt_cmpR op_ne (pe_own c_law_asked (hr.mono (by omega)) rfl (pa_cons pe_int (pa_cons (pv 6) (pa_cons pe_nnew pa_nil)))) pe_str (nomark _)) (pw_or1 (pt_cmpR op_ne (pe_own c_law_asked (hr.mono (by omega)) rfl (pa_cons pe_int (pa_cons (pv 6) (pa_cons (pe_disp (w := w) rfl hu (PPr.cons pe_int pe_int PPr.nil)) pa_nil)))) pe_str (nomark _)))))
          (pss_one (ps_ret pe_bl))
          pss_nil)
        (pss_cons (ps_set (i := 13) sc_law.nd rfl (Or.inr rfl) (pe_own c_law_play (hr.mono (by omega)) rfl (pa_cons (pv 1) (pa_cons (pv 2) (pa_cons (pe_ix (ix_listK (K := K) rfl) (pv 3) pe_int (fun _ _ => rfl)) (pa_cons (pv 5) pa_nil))))))
        (pss_cons (ps_if (pt_not (pt_val (pe_callB (allK (K := K) rfl rfl) (by rfl) T.b_all bb_all (pa_cons (pe_lc (own := [("_law_hand", 14)]) (g := gName 14) rfl sc_law.nd (pi_range1 (by rfl) T.b_range (pa_cons (pv 1) pa_nil)) (blkOk_by (N := n_law) (sc := defScope s_law) (own := [("_law_hand", 14)]) (by decide +kernel)) (fun _ _ _ _ _ => (pg_name (i := 14) sc_law.nd rfl (Or.inl rfl))) (fun _ _ _ _ _ => pts_nil) (fun _ _ _ _ _ => (pe_own c_law_told (hr.mono (by omega)) rfl (pa_cons (pe_methE (pv 6) TC.cl m_told.me m_told.ok (hr.mono (by omega)) m_told.bd takes_no (pa_cons (pv 14) pa_nil)) (pa_cons (pe_ix (ix_listK (K := K) rfl) (pv 13) (pv 14) (fun _ _ => rfl)) pa_nil))))) pa_nil))))
          (pss_one (ps_ret pe_bl))
          pss_nil)
        (pss_one (ps_ret (pe_and (pe_own c_law_hands (hr.mono (by omega)) rfl (pa_cons (pv 6) (pa_cons (pv 1) (pa_cons (pe_own c_law_cell_at (hr.mono (by omega)) rfl (pa_cons (pv 0) (pa_cons pe_int pa_nil))) (pa_cons pe_bl pa_nil))))) (pe_one (pe_cmpR op_eq (pe_fldK (K := K) rfl (pv 6) rfl) (pe_op op_add (pv 2) pe_int) (nomark _))))))))))))))))), ?_⟩
    walk_at "rg"
    refine ⟨a, _, rfl, .inl hS, rfl, ?_⟩
    rw [List.length_map, dec_int]
    refine ite2 (fun hc => qq _) (fun hc => ?_)
    have hc : ns.length ≠ 0 := fun z => hc (by rw [z]; rfl)
    refine ⟨a, ns, 0, rfl, hS, hl, by decide, _, rfl, fun p0 H1 n m l1 hp0 hT => ⟨p0, rfl, _, .of hp0, rfl, _, _, rfl, _, _, rfl, rfl, ?_⟩⟩
    have hm := hT.m2
    have hn := hT.n2
    have hn2 := hT.n10
    have hmn : m ≤ 1 ∨ (m = 2 ∧ n ≤ 8) := by
      have := hT.n8
      omega
    refine ⟨a, ns, 1, rfl, l1.sql hS, hl, by decide, _, rfl, fun sa H2 ss hsa l2 hss h4 hsig => ?_⟩
    have l02 := l1.trans l2
    refine ⟨a, ns, 3, rfl, l02.sql hS, hl, by decide, a, ns, 4, rfl, l02.sql hS, hl, by decide, n, rfl, _, rfl, by omega, ?_⟩
    have k0 := Int.emod_nonneg (cell ns 4) (show (n : Int) + 1 ≠ 0 by omega)
    have k1 := Int.emod_lt_of_pos (cell ns 4) (show (0 : Int) < (n : Int) + 1 by omega)
    generalize hkz : cell ns 4 % ((n : Int) + 1) = kz at k0 k1
    refine ⟨_, n, kz.toNat, by rw [Int.toNat_of_nonneg k0], hn, hn2, by omega, fun la ls H3 hla l3 hls hll hnd hin => ?_⟩
    have l03 := l02.trans l3
    refine ⟨a, sa, la, ns, n, m, ss, ls, rfl, l03.sql hS, hc, hl, hn, hn2, hm, l3.lst hss, h4, hsig, hls, fun d kvs H4 hd l4 hN hK => ?_⟩
    have l04 := l03.trans l4
    have hkl := hK.small hn hn2 hm hN.nodup
    have hssa := l4.lst (l3.lst hss)
    obtain ⟨s0, hs0⟩ : ∃ s0, ss[0]? = some s0 := ⟨_, List.getElem?_eq_getElem (by omega)⟩
    have hg0 : IsSign s0 := hsig _ (List.mem_of_getElem? hs0)
    have a0 : atI (ss.map V.str) 0 = some (.str s0) := at_of (j := 0) (by decide) (by rw [List.getElem?_map, hs0]; rfl)
    have hlie := hK.ok
    generalize hli : lieOf kvs = lie at hlie
    refine ⟨a, ns, 5, rfl, l04.sql hS, hl, by decide, sa, _, _, _, rfl, rfl, .of hssa, a0, _, n, m, s0, rfl, hn, hn2, hm, hg0, TabG.le hT1 l04, fun H5 l5 => ⟨true, rfl, iteF ?_⟩⟩
    refine ⟨sa, _, _, _, rfl, rfl, .of (l5.lst hssa), a0, fun x dx hx hdx hne => ?_⟩
    have l6 : Le H5 (L2.upd (L2.upd H5 dx (.own x)) x (.ins C dx [])) := (Le.new hdx).mut hx
    refine ⟨x, dx, la, n, m, .str s0, ls.map .int, true, true, rfl, upd_same, hn, hn2, hm, .good hg0, .inl (.of (l6.lst (l5.lst (l4.lst hls)))), by rw [List.length_map]; omega, .good hnd hin, TabG.le hT1 (l04.trans (l5.trans l6)), (fun h => nomatch h), (fun _ h => nomatch h), fun _ _ H7 es s1 ls1 es1 hs1 els lB hes hT7 hfr => ⟨rfl, m, rfl, by omega, by omega, ?_⟩⟩
    obtain rfl : s0 = s1 := by injection es1
    have els : ls = ls1 := ints_inj els
    subst els
    have l57 : Le H5 H7 := LeB.le l6 lB fun b hb => by rw [hb]; exact hx
    have l47 := l5.trans l57
    have hxn : H4 x = none := l5.back hx
    have hen : ∀ e ∈ es, H4 e = none := fun e he => l5.back (l6.back (hes e he))
    have hT0 : TabL P w C H7 x n m 0 s0 ls es lie := ⟨hT7.at_, hT7.len, hT7.nd, fun h e he => by
      have e0 : earM lie (some s0) (h : Int) (upTo n 0) = [] := by simp [earM, upTo]
      rw [e0]
      exact hT7.ear h e he⟩
    clear hT7 hfr
    rw [show ((m : Int) + 2 - 1).toNat = m + 1 by omega]
    obtain ⟨Mv, hMv⟩ : ∃ M : Nat → L2.St → Hp → Prop, ∀ i σ H', M i σ H' ↔ ∃ v7 v8 v9 v10 v11 v12 : Option V, σ = [some (.ref a), some (.int n), some (.int m), some (.ref sa), some (.ref la), some (.ref d), some (.ref x), v7, v8, v9, v10, v11, v12, none, none] ∧ Le H4 H' ∧ TabL P w C H' x n m i s0 ls es lie := ⟨_, fun _ _ _ => Iff.rfl⟩
    refine for_it (n := m + 1) walk_range Mv ((hMv _ _ _).mpr ⟨_, _, _, _, _, _, rfl, l47, hT0⟩) (fun _ _ _ _ _ => True.intro) ?_ ?_
    · rintro i y σ H8 H9 hi hM ⟨rfl, rfl⟩
      obtain ⟨v7, v8, v9, v10, v11, v12, rfl, l8, ht⟩ := (hMv _ _ _).mp hM
      walk_at "rg"
      refine ⟨a, ns, 5 + (1 + (i : Int)), rfl, (l04.trans l8).sql hS, hl, by omega, ?_⟩
      generalize cell ns (5 + (1 + (i : Int))) = cz
      have ei : ((i + 1 : Nat) : Int) = 1 + (i : Int) := by omega
      have ei2 : ((i + 1 : Nat) : Int) = (i : Int) + 1 := by omega
      refine ⟨x, cz, n, m, i, s0, ls, es, lie, by rw [decide_eq_false (show ¬ i = m + 1 by omega)], ht, hn, hn2, hm, by omega, fun H10 l10 => ⟨true, rfl, iteF ?_⟩⟩
      have l410 := l8.trans l10
      have ht10 := ht.le l10
      refine ⟨d, i + 1, n, m, ls, kvs, by rw [ei], hN.le l410, hK, hkl, fun g H11 hg l11 hNg => ⟨cz, rfl, ?_⟩⟩
      have l411 := l410.trans l11
      refine ⟨cz / 11, n, i + 1, la, ls, by rw [ei], (l4.trans l411).lst hls, hn, hn2, by omega, by omega, fun dw v H12 l12 hAv hBv hKv => ?_⟩
      rw [ei2] at hBv
      have hsz : ∀ p h v, (kk p h, v) ∈ ofSize (i + 1) kvs → p.length = i + 1 := fun p h v he => ofSize_size hK he
      have hsm := hK.of.small1 (k := i + 1) hn hn2 (by omega) (by omega) hsz hNg.nodup
      refine ⟨g, cz, v, ofSize (i + 1) kvs, n, m, i, ls, dw, rfl, hNg.le l12, hK.of, hsz, hn, hn2, hmn, by omega, hAv, hBv, hKv, fun c D' due H13 l13 hc2 hfin => ⟨c, rfl, _, .of hc2, rfl, _, _, rfl, _, _, rfl, rfl, ?_⟩⟩
      have l1013 := (l11.trans l12).trans l13
      have l413 := l410.trans l1013
      have ht13 := ht10.le l1013
      have hNg13 := hNg.le (l12.trans l13)
      have hge : g ∉ es := fun z => by
        obtain ⟨j, hj⟩ := List.mem_iff_getElem?.mp z
        obtain ⟨_, o, ho, _⟩ := ht10.ear j g hj
        rw [hg] at ho
        cases ho
      obtain ⟨M1, hM1⟩ : ∃ M : L2.St → Hp → Prop, ∀ σ' H', M σ' H' ↔ σ' = [some (.ref a), some (.int n), some (.int m), some (.ref sa), some (.ref la), some (.ref d), some (.ref x), some (.int (1 + (i : Int))), some (.int cz), some (.ref g), some v, some (.ref D'), some (.str due), none, none] ∧ Le H13 H' := ⟨_, fun _ _ => Iff.rfl⟩
      refine ⟨M1, ?_, ?_⟩
      · walk_at "rg"
        refine ite2 (fun hnd => ?_) (fun _ => (hM1 _ _).mpr ⟨rfl, .refl _⟩)
        have hnd : due ≠ "done" := fun z => by
          rw [decide_eq_true z] at hnd
          cases hnd
        rcases hfin with z | ⟨o, evs, out, hD', hE, hsys, hL, ho⟩
        · exact absurd z hnd
        have after : ∀ H14, Le H13 H14 → ∃ x2 x3 x4, H14 x = some (HO.ins x2 x3 x4) ∧ Cls K x2 ∧ NoAttr K x2 "round" ∧ ∃ x5, List.lookup ("round" : Str) x4 = some x5 ∧ scal x5 (V.int (1 + (i : Int) - 1)) = true ∧ if (!decide (x5 = V.int (1 + (i : Int) - 1))) = true then Q (V.bl false) H14 else
            M1 [some (.ref a), some (.int n), some (.int m), some (.ref sa), some (.ref la), some (.ref d), some (.ref x), some (.int (1 + (i : Int))), some (.int cz), some (.ref g), some v, some (.ref D'), some (.str due), none, none] H14 := fun H14 l14 => by
          obtain ⟨dx7, _, _, b1, _⟩ := (ht13.le l14).at_
          refine ⟨C, dx7, _, b1, TC.cl, TC.nR, _, tf_at_round, rfl, ?_⟩
          rw [show (1 : Int) + (i : Int) - 1 = i by omega]
          exact ne_same ((hM1 _ _).mpr ⟨rfl, l14⟩)
        refine .inr (.inl ⟨x, D', n, m, i, s0, ls, es, lie, o, evs, out, rfl, ht13, hn, hn2, hm, by omega, TabG.le hT1 (l04.trans l413), TabG.le hT2 (l04.trans l413), fun h => absurd h (by omega), fun _ => ⟨hD', hE, hsys, hL, fun H14 l14 => ⟨fun eo => ?_, fun eo => ?_⟩, fun eo => ?_⟩⟩)
        · rcases ho with ⟨_, ed⟩ | ⟨eo2, _⟩
          · subst ed
            exact ⟨rfl, ne_same (after H14 l14)⟩
          · rw [eo] at eo2
            cases eo2
        · rcases ho with ⟨eo2, _⟩ | ⟨_, ed⟩
          · rw [eo] at eo2
            cases eo2
          · subst ed
            exact ⟨rfl, ne_same (after H14 l14)⟩
        · rcases ho with ⟨eo2, _⟩ | ⟨eo2, _⟩ <;> (rw [eo] at eo2; cases eo2)
      · rintro σ' H14 hm1
        obtain ⟨rfl, l14⟩ := (hM1 _ _).mp hm1
        walk_at "rg"
        have l414 := l413.trans l14
        have hN14 := hNg13.le l14
        obtain ⟨hsy9, o9, ho9, hI9⟩ := id hN14
        obtain ⟨evs, hev, hel, hent⟩ := ents_ND hI9
        refine .inr (.inl ⟨x, g, n, m, i, s0, ls, es, lie, o9, evs, .good, rfl, ht13.le l14, hn, hn2, hm, by omega, TabG.le hT1 (l04.trans l414), TabG.le hT2 (l04.trans l414), fun h => absurd h (by omega), fun _ => ⟨ho9, hev, hsy9, ?_, fun _ _ => ⟨(fun h => nomatch h), fun h => nomatch h⟩, fun _ => ⟨_, hN14, hge, fun p h hp hpl hh => ?_, fun H15 l15 hT15 => ⟨rfl, ne_same ?_⟩⟩⟩⟩)
        · exact lies_good (P := P) (w := w) (k := 0) hm hK.of (fun p h v he => by rw [hsz p h v he]; simp) hent
        · rw [ofSize_val (i + 1) p h hpl]
          exact hlie p h
        · refine (hMv _ _ _).mpr ⟨_, _, _, _, _, _, rfl, LeB.le l414 l15 fun b hb => ?_, hT15⟩
          rcases hb with hb | hb
          · rw [hb]; exact hxn
          · exact hen b hb
    · rintro σ H8 hM
      obtain ⟨v7, v8, v9, v10, v11, v12, rfl, l8, ht⟩ := (hMv _ _ _).mp hM
      walk_at "rg"
      intro p hp hps
      have l9 : Le H8 (L2.upd H8 p (raw p newD)) := .new hp
      generalize (L2.upd H8 p (raw p newD)) = H9 at l9 ⊢
      refine .inr (.inl ⟨x, p, n, m, m + 1, s0, ls, es, lie, newD, [], .good, rfl, ht.le l9, hn, hn2, hm, by omega, TabG.le hT1 (l04.trans (l8.trans l9)), TabG.le hT2 (l04.trans (l8.trans l9)), fun _ H10 l10 => ⟨rfl, ne_same ?_⟩, fun h => absurd h (by omega)⟩)
      unfold tDisp
      intro d1 hd1 hds1
      unfold tPairs tPairs
      walk_at "rg"
      refine ⟨upd_same, [.num 5], by decide, Ats.cons At.int Ats.nil, fun d hd => ?_, by simp, fun o hk => ?_⟩
      · rw [List.mem_singleton.mp hd]
        exact ⟨by decide, fun x z => nomatch z⟩
      have l11 : Le H10 (L2.upd (L2.upd H10 d1 (raw d1 newD)) d1 (raw d1 o)) := (Le.new hd1).mut hd1
      generalize (L2.upd (L2.upd H10 d1 (raw d1 newD)) d1 (raw d1 o)) = H11 at l11 ⊢
      have l811 := l9.trans (l10.trans l11)
      refine .inr (.inl ⟨x, d1, n, m, m + 1, s0, ls, es, lie, o, [], .good, rfl, ht.le l811, hn, hn2, hm, by omega, TabG.le hT1 (l04.trans (l8.trans l811)), TabG.le hT2 (l04.trans (l8.trans l811)), fun _ H12 l12 => ⟨rfl, ne_same ?_⟩, fun h => absurd h (by omega)⟩)
      have l812 := l811.trans l12
      have l412 := l8.trans l812
      refine ⟨sa, _, _, _, rfl, rfl, .of (l412.lst hssa), a0, n, m, some s0, d, kvs, lie, rfl, hn, hn2, hm, hN.le l412, hlie, fun E2 H13 es2 hE2 l13 hE2s hl2 hnd2 hf2 hEars2 => ⟨by omega, by omega, fun Dl hDl => ?_⟩⟩
      have ht13 := ht.le (l812.trans l13)
      refine lc_trues walk_range hDl (by omega) (fun _ _ => True.intro) (fun i y H14 H15 hi l14 hy Yk Nk kY => ?_) (fun H14 l14 h14 => ?_)
      · obtain ⟨rfl, rfl⟩ := hy
        refine ⟨rfl, ?_⟩
        walk_at "rg"
        have ht14 := ht13.le l14
        obtain ⟨dx7, _, _, b1, _⟩ := ht14.at_
        obtain ⟨e2, he2⟩ : ∃ e, es2[i]? = some e := ⟨_, List.getElem?_eq_getElem (by omega)⟩
        refine ⟨dx7, _, b1, tf_no_told, x, .int i, true, n, m, m + 1, s0, ls, es, _, rfl, ht14, hn2, .inl ⟨i, rfl, by rw [decide_eq_true (show (0 : Int) ≤ (i : Int) by omega), decide_eq_true (show (i : Int) ≤ (n : Int) - 1 by omega)]; rfl⟩, fun h => ?_, (fun h => nomatch h), fun _ i' ei' hi' d3 H18 hd3 l18 hN18 => ?_⟩
        · show (earM lie (some s0) (h : Int) (upTo n (m + 1))).length ≤ 1000
          have h1 := ear_length lie (some s0) (h : Int) (upTo n (m + 1))
          have h2 := upTo_small (n := n) (k := m + 1) hn2 (by omega)
          omega
        · obtain rfl : i = i' := by injection ei' with e; omega
          have hN2 := (upTo_all (m := m) hn ▸ hEars2 i e2 he2 : ND P w H13 e2 (earM lie (some s0) (i : Int) (upTo n (m + 1))))
          refine ⟨E2, _, _, .ref e2, rfl, rfl, .of ((l14.trans l18).lst hE2s), at_of (j := i) (by omega) (by rw [List.getElem?_map, he2]; rfl), d3, e2, _, rfl, hN18, hN2.le (l14.trans l18), fun e he => ?_, ?_, fun H19 l19 => kY _ (l18.trans l19)⟩
          · obtain ⟨q, _, rfl⟩ := List.mem_map.mp he
            exact ⟨q, _, rfl⟩
          · have h1 := ear_length lie (some s0) (i : Int) (upTo n (m + 1))
            have h2 := upTo_small (n := n) (k := m + 1) hn2 (by omega)
            omega
      · refine ⟨Dl, _, rfl, .of h14, ?_⟩
        rw [all_true]
        have ht14 := ht13.le l14
        have l014 := l04.trans (l412.trans (l13.trans l14))
        refine ⟨true, rfl, iteF ⟨a, ns, 9, rfl, l014.sql hS, hl, by decide, x, _, n, m, m + 1, s0, ls, es, lie, by rw [decide_eq_true rfl], ht14, hn, hn2, hm, by omega, fun H15 l15 => ⟨true, rfl, iteT ?_⟩⟩⟩
        obtain ⟨dx7, _, _, b1, _⟩ := (ht14.le l15).at_
        refine ⟨C, dx7, _, b1, TC.cl, TC.nR, _, tf_at_round, rfl, ?_⟩
        rw [decide_eq_true (show V.int ((m + 1 : Nat) : Int) = V.int ((m : Int) + 1) from by rw [show ((m + 1 : Nat) : Int) = (m : Int) + 1 by omega])]
        exact qq _
end

theorem all_mk {l : PySem.W.OpenLaw} {w : World} {K : PySem.W.Frag} {h : Heap} {mg : Str → Option Value} {fa f1 f2 f3 f4 f5 f6 f7 f8 f9 f10 f11 f12 f13 f14 f15 f16 f17 f18 f19 f20 f21 f22 f23 f24 f25 f26 f27 f28 f29 f30 f31 f32 f33 f34 f35 f36 f37 f38 f39 f40 f41 C_TableError C_NoTable C_NoSign C_NoHand C_NoSaying C_Over C_NotOver C_Table cc_is_sign P1 cc_is_path P2 : Addr} (X : K.In h) (G : h.Ns mainGlobals mg) (hfa : mg "law" = some (.ref fa))
    {od1 an1 od2 an2 od3 an3 od4 an4 od5 an5 od6 an6 od7 an7 od8 an8 od9 an9 od10 an10 od11 an11 od12 an12 od13 an13 od14 an14 od15 an15 od16 an16 od17 an17 od18 an18 od19 an19 od20 an20 od21 an21 od22 an22 od23 an23 od24 an24 od25 an25 od26 an26 od27 an27 od28 an28 od29 an29 od30 an30 od31 an31 od32 an32 od33 an33 od34 an34 od35 an35 od36 an36 od37 an37 od38 an38 od39 an39 od40 an40 od41 an41 : Option Addr} {sl1 sl2 sl3 sl4 sl5 sl6 sl7 sl8 sl9 sl10 sl11 sl12 sl13 sl14 sl15 sl16 sl17 sl18 sl19 sl20 sl21 sl22 sl23 sl24 sl25 sl26 sl27 sl28 sl29 sl30 sl31 sl32 sl33 sl34 sl35 sl36 sl37 sl38 sl39 sl40 sl41 : Array (Option Value)} {oc1 kV1 dc1 pm1 cd1 ct1 oc2 kV2 dc2 pm2 cd2 ct2 oc3 kV3 dc3 pm3  ct3 oc4 kV4 dc4 pm4 cd4 ct4 oc5 kV5 dc5 pm5 cd5 ct5 oc6 kV6 dc6 pm6 cd6 ct6 oc7 kV7 dc7 pm7 cd7 ct7 oc8 kV8 dc8 pm8  ct8 oc9 kV9 dc9 pm9 cd9 ct9 oc10 kV10 dc10 pm10 cd10 ct10 oc11 kV11 dc11 pm11 cd11 ct11 oc12 kV12 dc12 pm12 cd12 ct12 oc13 kV13 dc13 pm13 cd13 ct13 oc14 kV14 dc14 pm14 cd14 ct14 oc15 kV15 dc15 pm15 cd15 ct15 oc16 kV16 dc16 pm16 cd16 ct16 oc17 kV17 dc17 pm17 cd17 ct17 oc18 kV18 dc18 pm18 cd18 ct18 oc19 kV19 dc19 pm19 cd19 ct19 oc20 kV20 dc20 pm20 cd20 ct20 oc21 kV21 dc21 pm21 cd21 ct21 oc22 kV22 dc22 pm22 cd22 ct22 oc23 kV23 dc23 pm23 cd23 ct23 oc24 kV24 dc24 pm24 cd24 ct24 oc25 kV25 dc25 pm25 cd25 ct25 oc26 kV26 dc26 pm26 cd26 ct26 oc27 kV27 dc27 pm27 cd27 ct27 oc28 kV28 dc28 pm28 cd28 ct28 oc29 kV29 dc29 pm29 cd29 ct29 oc30 kV30 dc30 pm30 cd30 ct30 oc31 kV31 dc31 pm31 cd31 ct31 oc32 kV32 dc32 pm32 cd32 ct32 oc33 kV33 dc33 pm33 cd33 ct33 oc34 kV34 dc34 pm34 cd34 ct34 oc35 kV35 dc35 pm35 cd35 ct35 oc36 kV36 dc36 pm36 cd36 ct36 oc37 kV37 dc37 pm37 cd37 ct37 oc38 kV38 dc38 pm38 cd38 ct38 oc39 kV39 dc39 pm39 cd39 ct39 oc40 kV40 dc40 pm40 cd40 ct40 oc41 kV41 dc41 pm41 cd41 ct41 ke_P1 ke_P2 : Value} {tz_LETTERS : Tok}
    {kd_P1 : Option Addr} {kv_P1 : Array Value} {ks_P1 : Array (Option Value)} {kd_P2 : Option Addr} {kv_P2 : Array Value} {ks_P2 : Array (Option Value)}
    (cg_Table : PySem.W.nsIn K mainGlobals "Table" = some (some (.ref C_Table))) (cm_Table : PySem.W.makesIn K C_Table = true) (ck_Table : PySem.W.keepIn K (.ref C_Table) = true)
    (pg_Table : PySem.W.plainGet K C_Table Str.empty = true) (hd_Table : PySem.W.hasDictIn K C_Table = true) (po_Table : PySem.W.plainOver K C_Table = true) (sa_Table : PySem.W.findIn K (.ref C_Table) "__setattr__" = some (some (.builtin "object.__setattr__")))
    (na0_Table : PySem.W.findIn K (.ref C_Table) "round" = some none)
    (na1_Table : PySem.W.findIn K (.ref C_Table) "_hands" = some none)
    (na2_Table : PySem.W.findIn K (.ref C_Table) "_most" = some none)
    (na3_Table : PySem.W.findIn K (.ref C_Table) "_sign" = some none)
    (na4_Table : PySem.W.findIn K (.ref C_Table) "_liars" = some none)
    (na5_Table : PySem.W.findIn K (.ref C_Table) "_heard" = some none)
    (a1 : PySem.W.nsIn K mainGlobals "is_whole" = some (some (.ref f1)))
    (l1 : K.lookup f1 = some ⟨oc1, od1, .func (PySem.W.fnOf "is_whole" "is_whole" (defArgs s_is_whole) (defBody s_is_whole) (defScope s_is_whole) .none kV1 dc1 pm1 an1 cd1 ct1), sl1⟩) (c1 : PySem.W.codeIn K cd1 "is_whole" = true) (k1 : PySem.W.keepIn K (.ref f1) = true)
    (a2 : PySem.W.nsIn K mainGlobals "check_table" = some (some (.ref f2)))
    (l2 : K.lookup f2 = some ⟨oc2, od2, .func (PySem.W.fnOf "check_table" "check_table" (defArgs s_check_table) (defBody s_check_table) (defScope s_check_table) .none kV2 dc2 pm2 an2 cd2 ct2), sl2⟩) (c2 : PySem.W.codeIn K cd2 "check_table" = true) (k2 : PySem.W.keepIn K (.ref f2) = true)
    (a3 : PySem.W.nsIn K mainGlobals "is_sign" = some (some (.ref f3)))
    (l3 : K.lookup f3 = some ⟨oc3, od3, .func (PySem.W.fnOf "is_sign" "is_sign" (defArgs s_is_sign) (defBody s_is_sign) (defScope s_is_sign) .none kV3 dc3 pm3 an3 (.ref cc_is_sign) ct3), sl3⟩) (c3 : PySem.W.codeIn K (.ref cc_is_sign) "is_sign" = true) (k3 : PySem.W.keepIn K (.ref f3) = true)
    (a4 : PySem.W.nsIn K mainGlobals "check_sign" = some (some (.ref f4)))
    (l4 : K.lookup f4 = some ⟨oc4, od4, .func (PySem.W.fnOf "check_sign" "check_sign" (defArgs s_check_sign) (defBody s_check_sign) (defScope s_check_sign) .none kV4 dc4 pm4 an4 cd4 ct4), sl4⟩) (c4 : PySem.W.codeIn K cd4 "check_sign" = true) (k4 : PySem.W.keepIn K (.ref f4) = true)
    (a5 : PySem.W.nsIn K mainGlobals "is_hand" = some (some (.ref f5)))
    (l5 : K.lookup f5 = some ⟨oc5, od5, .func (PySem.W.fnOf "is_hand" "is_hand" (defArgs s_is_hand) (defBody s_is_hand) (defScope s_is_hand) .none kV5 dc5 pm5 an5 cd5 ct5), sl5⟩) (c5 : PySem.W.codeIn K cd5 "is_hand" = true) (k5 : PySem.W.keepIn K (.ref f5) = true)
    (a6 : PySem.W.nsIn K mainGlobals "check_hand" = some (some (.ref f6)))
    (l6 : K.lookup f6 = some ⟨oc6, od6, .func (PySem.W.fnOf "check_hand" "check_hand" (defArgs s_check_hand) (defBody s_check_hand) (defScope s_check_hand) .none kV6 dc6 pm6 an6 cd6 ct6), sl6⟩) (c6 : PySem.W.codeIn K cd6 "check_hand" = true) (k6 : PySem.W.keepIn K (.ref f6) = true)
    (a7 : PySem.W.nsIn K mainGlobals "check_liars" = some (some (.ref f7)))
    (l7 : K.lookup f7 = some ⟨oc7, od7, .func (PySem.W.fnOf "check_liars" "check_liars" (defArgs s_check_liars) (defBody s_check_liars) (defScope s_check_liars) .none kV7 dc7 pm7 an7 cd7 ct7), sl7⟩) (c7 : PySem.W.codeIn K cd7 "check_liars" = true) (k7 : PySem.W.keepIn K (.ref f7) = true)
    (a8 : PySem.W.nsIn K mainGlobals "is_path" = some (some (.ref f8)))
    (l8 : K.lookup f8 = some ⟨oc8, od8, .func (PySem.W.fnOf "is_path" "is_path" (defArgs s_is_path) (defBody s_is_path) (defScope s_is_path) .none kV8 dc8 pm8 an8 (.ref cc_is_path) ct8), sl8⟩) (c8 : PySem.W.codeIn K (.ref cc_is_path) "is_path" = true) (k8 : PySem.W.keepIn K (.ref f8) = true)
    (a9 : PySem.W.nsIn K mainGlobals "is_saying" = some (some (.ref f9)))
    (l9 : K.lookup f9 = some ⟨oc9, od9, .func (PySem.W.fnOf "is_saying" "is_saying" (defArgs s_is_saying) (defBody s_is_saying) (defScope s_is_saying) .none kV9 dc9 pm9 an9 cd9 ct9), sl9⟩) (c9 : PySem.W.codeIn K cd9 "is_saying" = true) (k9 : PySem.W.keepIn K (.ref f9) = true)
    (a10 : PySem.W.nsIn K mainGlobals "check_lies" = some (some (.ref f10)))
    (l10 : K.lookup f10 = some ⟨oc10, od10, .func (PySem.W.fnOf "check_lies" "check_lies" (defArgs s_check_lies) (defBody s_check_lies) (defScope s_check_lies) .none kV10 dc10 pm10 an10 cd10 ct10), sl10⟩) (c10 : PySem.W.codeIn K cd10 "check_lies" = true) (k10 : PySem.W.keepIn K (.ref f10) = true)
    (a11 : PySem.W.nsIn K mainGlobals "hearers" = some (some (.ref f11)))
    (l11 : K.lookup f11 = some ⟨oc11, od11, .func (PySem.W.fnOf "hearers" "hearers" (defArgs s_hearers) (defBody s_hearers) (defScope s_hearers) .none kV11 dc11 pm11 an11 cd11 ct11), sl11⟩) (c11 : PySem.W.codeIn K cd11 "hearers" = true) (k11 : PySem.W.keepIn K (.ref f11) = true)
    (a12 : PySem.W.nsIn K mainGlobals "paths" = some (some (.ref f12)))
    (l12 : K.lookup f12 = some ⟨oc12, od12, .func (PySem.W.fnOf "paths" "paths" (defArgs s_paths) (defBody s_paths) (defScope s_paths) .none kV12 dc12 pm12 an12 cd12 ct12), sl12⟩) (c12 : PySem.W.codeIn K cd12 "paths" = true) (k12 : PySem.W.keepIn K (.ref f12) = true)
    (a13 : PySem.W.nsIn K mainGlobals "vote" = some (some (.ref f13)))
    (l13 : K.lookup f13 = some ⟨oc13, od13, .func (PySem.W.fnOf "vote" "vote" (defArgs s_vote) (defBody s_vote) (defScope s_vote) .none kV13 dc13 pm13 an13 cd13 ct13), sl13⟩) (c13 : PySem.W.codeIn K cd13 "vote" = true) (k13 : PySem.W.keepIn K (.ref f13) = true)
    (a14 : PySem.W.nsIn K mainGlobals "settled" = some (some (.ref f14)))
    (l14 : K.lookup f14 = some ⟨oc14, od14, .func (PySem.W.fnOf "settled" "settled" (defArgs s_settled) (defBody s_settled) (defScope s_settled) .none kV14 dc14 pm14 an14 cd14 ct14), sl14⟩) (c14 : PySem.W.codeIn K cd14 "settled" = true) (k14 : PySem.W.keepIn K (.ref f14) = true)
    (a15 : PySem.W.findIn K (.ref C_Table) "__init__" = some (some (.ref f15))) (i15 : PySem.W.isFn K (.ref f15) = true)
    (l15 : K.lookup f15 = some ⟨oc15, od15, .func (PySem.W.fnOf "__init__" "Table.__init__" (defArgs s_Table___init__) (defBody s_Table___init__) (defScope s_Table___init__) .none kV15 dc15 pm15 an15 cd15 ct15), sl15⟩) (c15 : PySem.W.codeIn K cd15 "Table.__init__" = true) (k15 : PySem.W.keepIn K (.ref f15) = true)
    (a16 : PySem.W.findIn K (.ref C_Table) "_is_over" = some (some (.ref f16))) (i16 : PySem.W.isFn K (.ref f16) = true)
    (l16 : K.lookup f16 = some ⟨oc16, od16, .func (PySem.W.fnOf "_is_over" "Table._is_over" (defArgs s_Table__is_over) (defBody s_Table__is_over) (defScope s_Table__is_over) .none kV16 dc16 pm16 an16 cd16 ct16), sl16⟩) (c16 : PySem.W.codeIn K cd16 "Table._is_over" = true) (k16 : PySem.W.keepIn K (.ref f16) = true)
    (a17 : PySem.W.findIn K (.ref C_Table) "_honest_word" = some (some (.ref f17))) (i17 : PySem.W.isFn K (.ref f17) = true)
    (l17 : K.lookup f17 = some ⟨oc17, od17, .func (PySem.W.fnOf "_honest_word" "Table._honest_word" (defArgs s_Table__honest_word) (defBody s_Table__honest_word) (defScope s_Table__honest_word) .none kV17 dc17 pm17 an17 cd17 ct17), sl17⟩) (c17 : PySem.W.codeIn K cd17 "Table._honest_word" = true) (k17 : PySem.W.keepIn K (.ref f17) = true)
    (a18 : PySem.W.findIn K (.ref C_Table) "_say_along" = some (some (.ref f18))) (i18 : PySem.W.isFn K (.ref f18) = true)
    (l18 : K.lookup f18 = some ⟨oc18, od18, .func (PySem.W.fnOf "_say_along" "Table._say_along" (defArgs s_Table__say_along) (defBody s_Table__say_along) (defScope s_Table__say_along) .none kV18 dc18 pm18 an18 cd18 ct18), sl18⟩) (c18 : PySem.W.codeIn K cd18 "Table._say_along" = true) (k18 : PySem.W.keepIn K (.ref f18) = true)
    (a19 : PySem.W.findIn K (.ref C_Table) "play" = some (some (.ref f19))) (i19 : PySem.W.isFn K (.ref f19) = true)
    (l19 : K.lookup f19 = some ⟨oc19, od19, .func (PySem.W.fnOf "play" "Table.play" (defArgs s_Table_play) (defBody s_Table_play) (defScope s_Table_play) .none kV19 dc19 pm19 an19 cd19 ct19), sl19⟩) (c19 : PySem.W.codeIn K cd19 "Table.play" = true) (k19 : PySem.W.keepIn K (.ref f19) = true)
    (a20 : PySem.W.findIn K (.ref C_Table) "told" = some (some (.ref f20))) (i20 : PySem.W.isFn K (.ref f20) = true)
    (l20 : K.lookup f20 = some ⟨oc20, od20, .func (PySem.W.fnOf "told" "Table.told" (defArgs s_Table_told) (defBody s_Table_told) (defScope s_Table_told) .none kV20 dc20 pm20 an20 cd20 ct20), sl20⟩) (c20 : PySem.W.codeIn K cd20 "Table.told" = true) (k20 : PySem.W.keepIn K (.ref f20) = true)
    (a21 : PySem.W.findIn K (.ref C_Table) "says" = some (some (.ref f21))) (i21 : PySem.W.isFn K (.ref f21) = true)
    (l21 : K.lookup f21 = some ⟨oc21, od21, .func (PySem.W.fnOf "says" "Table.says" (defArgs s_Table_says) (defBody s_Table_says) (defScope s_Table_says) .none kV21 dc21 pm21 an21 cd21 ct21), sl21⟩) (c21 : PySem.W.codeIn K cd21 "Table.says" = true) (k21 : PySem.W.keepIn K (.ref f21) = true)
    (a22 : PySem.W.nsIn K mainGlobals "_law_cell_at" = some (some (.ref f22)))
    (l22 : K.lookup f22 = some ⟨oc22, od22, .func (PySem.W.fnOf "_law_cell_at" "_law_cell_at" (defArgs s_law_cell_at) (defBody s_law_cell_at) (defScope s_law_cell_at) .none kV22 dc22 pm22 an22 cd22 ct22), sl22⟩) (c22 : PySem.W.codeIn K cd22 "_law_cell_at" = true) (k22 : PySem.W.keepIn K (.ref f22) = true)
    (a23 : PySem.W.nsIn K mainGlobals "_law_signs" = some (some (.ref f23)))
    (l23 : K.lookup f23 = some ⟨oc23, od23, .func (PySem.W.fnOf "_law_signs" "_law_signs" (defArgs s_law_signs) (defBody s_law_signs) (defScope s_law_signs) .none kV23 dc23 pm23 an23 cd23 ct23), sl23⟩) (c23 : PySem.W.codeIn K cd23 "_law_signs" = true) (k23 : PySem.W.keepIn K (.ref f23) = true)
    (a24 : PySem.W.nsIn K mainGlobals "_law_table" = some (some (.ref f24)))
    (l24 : K.lookup f24 = some ⟨oc24, od24, .func (PySem.W.fnOf "_law_table" "_law_table" (defArgs s_law_table) (defBody s_law_table) (defScope s_law_table) .none kV24 dc24 pm24 an24 cd24 ct24), sl24⟩) (c24 : PySem.W.codeIn K cd24 "_law_table" = true) (k24 : PySem.W.keepIn K (.ref f24) = true)
    (a25 : PySem.W.nsIn K mainGlobals "_law_paths" = some (some (.ref f25)))
    (l25 : K.lookup f25 = some ⟨oc25, od25, .func (PySem.W.fnOf "_law_paths" "_law_paths" (defArgs s_law_paths) (defBody s_law_paths) (defScope s_law_paths) .none kV25 dc25 pm25 an25 cd25 ct25), sl25⟩) (c25 : PySem.W.codeIn K cd25 "_law_paths" = true) (k25 : PySem.W.keepIn K (.ref f25) = true)
    (a26 : PySem.W.nsIn K mainGlobals "_law_liars" = some (some (.ref f26)))
    (l26 : K.lookup f26 = some ⟨oc26, od26, .func (PySem.W.fnOf "_law_liars" "_law_liars" (defArgs s_law_liars) (defBody s_law_liars) (defScope s_law_liars) .none kV26 dc26 pm26 an26 cd26 ct26), sl26⟩) (c26 : PySem.W.codeIn K cd26 "_law_liars" = true) (k26 : PySem.W.keepIn K (.ref f26) = true)
    (a27 : PySem.W.nsIn K mainGlobals "_law_mixed" = some (some (.ref f27)))
    (l27 : K.lookup f27 = some ⟨oc27, od27, .func (PySem.W.fnOf "_law_mixed" "_law_mixed" (defArgs s_law_mixed) (defBody s_law_mixed) (defScope s_law_mixed) .none kV27 dc27 pm27 an27 cd27 ct27), sl27⟩) (c27 : PySem.W.codeIn K cd27 "_law_mixed" = true) (k27 : PySem.W.keepIn K (.ref f27) = true)
    (a28 : PySem.W.nsIn K mainGlobals "_law_lie" = some (some (.ref f28)))
    (l28 : K.lookup f28 = some ⟨oc28, od28, .func (PySem.W.fnOf "_law_lie" "_law_lie" (defArgs s_law_lie) (defBody s_law_lie) (defScope s_law_lie) .none kV28 dc28 pm28 an28 cd28 ct28), sl28⟩) (c28 : PySem.W.codeIn K cd28 "_law_lie" = true) (k28 : PySem.W.keepIn K (.ref f28) = true)
    (a29 : PySem.W.nsIn K mainGlobals "_law_lies" = some (some (.ref f29)))
    (l29 : K.lookup f29 = some ⟨oc29, od29, .func (PySem.W.fnOf "_law_lies" "_law_lies" (defArgs s_law_lies) (defBody s_law_lies) (defScope s_law_lies) .none kV29 dc29 pm29 an29 cd29 ct29), sl29⟩) (c29 : PySem.W.codeIn K cd29 "_law_lies" = true) (k29 : PySem.W.keepIn K (.ref f29) = true)
    (a30 : PySem.W.nsIn K mainGlobals "_law_play" = some (some (.ref f30)))
    (l30 : K.lookup f30 = some ⟨oc30, od30, .func (PySem.W.fnOf "_law_play" "_law_play" (defArgs s_law_play) (defBody s_law_play) (defScope s_law_play) .none kV30 dc30 pm30 an30 cd30 ct30), sl30⟩) (c30 : PySem.W.codeIn K cd30 "_law_play" = true) (k30 : PySem.W.keepIn K (.ref f30) = true)
    (a31 : PySem.W.nsIn K mainGlobals "_law_of" = some (some (.ref f31)))
    (l31 : K.lookup f31 = some ⟨oc31, od31, .func (PySem.W.fnOf "_law_of" "_law_of" (defArgs s_law_of) (defBody s_law_of) (defScope s_law_of) .none kV31 dc31 pm31 an31 cd31 ct31), sl31⟩) (c31 : PySem.W.codeIn K cd31 "_law_of" = true) (k31 : PySem.W.keepIn K (.ref f31) = true)
    (a32 : PySem.W.nsIn K mainGlobals "_law_same" = some (some (.ref f32)))
    (l32 : K.lookup f32 = some ⟨oc32, od32, .func (PySem.W.fnOf "_law_same" "_law_same" (defArgs s_law_same) (defBody s_law_same) (defScope s_law_same) .none kV32 dc32 pm32 an32 cd32 ct32), sl32⟩) (c32 : PySem.W.codeIn K cd32 "_law_same" = true) (k32 : PySem.W.keepIn K (.ref f32) = true)
    (a33 : PySem.W.nsIn K mainGlobals "_law_told" = some (some (.ref f33)))
    (l33 : K.lookup f33 = some ⟨oc33, od33, .func (PySem.W.fnOf "_law_told" "_law_told" (defArgs s_law_told) (defBody s_law_told) (defScope s_law_told) .none kV33 dc33 pm33 an33 cd33 ct33), sl33⟩) (c33 : PySem.W.codeIn K cd33 "_law_told" = true) (k33 : PySem.W.keepIn K (.ref f33) = true)
    (a34 : PySem.W.nsIn K mainGlobals "_law_word" = some (some (.ref f34)))
    (l34 : K.lookup f34 = some ⟨oc34, od34, .func (PySem.W.fnOf "_law_word" "_law_word" (defArgs s_law_word) (defBody s_law_word) (defScope s_law_word) .none kV34 dc34 pm34 an34 cd34 ct34), sl34⟩) (c34 : PySem.W.codeIn K cd34 "_law_word" = true) (k34 : PySem.W.keepIn K (.ref f34) = true)
    (a35 : PySem.W.nsIn K mainGlobals "_law_asked" = some (some (.ref f35)))
    (l35 : K.lookup f35 = some ⟨oc35, od35, .func (PySem.W.fnOf "_law_asked" "_law_asked" (defArgs s_law_asked) (defBody s_law_asked) (defScope s_law_asked) .none kV35 dc35 pm35 an35 cd35 ct35), sl35⟩) (c35 : PySem.W.codeIn K cd35 "_law_asked" = true) (k35 : PySem.W.keepIn K (.ref f35) = true)
    (a36 : PySem.W.nsIn K mainGlobals "_law_heard" = some (some (.ref f36)))
    (l36 : K.lookup f36 = some ⟨oc36, od36, .func (PySem.W.fnOf "_law_heard" "_law_heard" (defArgs s_law_heard) (defBody s_law_heard) (defScope s_law_heard) .none kV36 dc36 pm36 an36 cd36 ct36), sl36⟩) (c36 : PySem.W.codeIn K cd36 "_law_heard" = true) (k36 : PySem.W.keepIn K (.ref f36) = true)
    (a37 : PySem.W.nsIn K mainGlobals "_law_wrong_pair" = some (some (.ref f37)))
    (l37 : K.lookup f37 = some ⟨oc37, od37, .func (PySem.W.fnOf "_law_wrong_pair" "_law_wrong_pair" (defArgs s_law_wrong_pair) (defBody s_law_wrong_pair) (defScope s_law_wrong_pair) .none kV37 dc37 pm37 an37 cd37 ct37), sl37⟩) (c37 : PySem.W.codeIn K cd37 "_law_wrong_pair" = true) (k37 : PySem.W.keepIn K (.ref f37) = true)
    (a38 : PySem.W.nsIn K mainGlobals "_law_spoilt" = some (some (.ref f38)))
    (l38 : K.lookup f38 = some ⟨oc38, od38, .func (PySem.W.fnOf "_law_spoilt" "_law_spoilt" (defArgs s_law_spoilt) (defBody s_law_spoilt) (defScope s_law_spoilt) .none kV38 dc38 pm38 an38 cd38 ct38), sl38⟩) (c38 : PySem.W.codeIn K cd38 "_law_spoilt" = true) (k38 : PySem.W.keepIn K (.ref f38) = true)
    (a39 : PySem.W.nsIn K mainGlobals "_law_made" = some (some (.ref f39)))
    (l39 : K.lookup f39 = some ⟨oc39, od39, .func (PySem.W.fnOf "_law_made" "_law_made" (defArgs s_law_made) (defBody s_law_made) (defScope s_law_made) .none kV39 dc39 pm39 an39 cd39 ct39), sl39⟩) (c39 : PySem.W.codeIn K cd39 "_law_made" = true) (k39 : PySem.W.keepIn K (.ref f39) = true)
    (a40 : PySem.W.nsIn K mainGlobals "_law_hands" = some (some (.ref f40)))
    (l40 : K.lookup f40 = some ⟨oc40, od40, .func (PySem.W.fnOf "_law_hands" "_law_hands" (defArgs s_law_hands) (defBody s_law_hands) (defScope s_law_hands) .none kV40 dc40 pm40 an40 cd40 ct40), sl40⟩) (c40 : PySem.W.codeIn K cd40 "_law_hands" = true) (k40 : PySem.W.keepIn K (.ref f40) = true)
    (a41 : PySem.W.nsIn K mainGlobals "law" = some (some (.ref f41)))
    (l41 : K.lookup f41 = some ⟨oc41, od41, .func (PySem.W.fnOf "law" "law" (defArgs s_law) (defBody s_law) (defScope s_law) .none kV41 dc41 pm41 an41 cd41 ct41), sl41⟩) (c41 : PySem.W.codeIn K cd41 "law" = true) (k41 : PySem.W.keepIn K (.ref f41) = true)
    (z_range : PySem.W.nsIn K mainGlobals "range" = some none)
    (z_str : PySem.W.nsIn K mainGlobals "str" = some none)
    (z_int : PySem.W.nsIn K mainGlobals "int" = some none)
    (z_bool : PySem.W.nsIn K mainGlobals "bool" = some none)
    (z_list : PySem.W.nsIn K mainGlobals "list" = some none)
    (z_tuple : PySem.W.nsIn K mainGlobals "tuple" = some none)
    (z_dict : PySem.W.nsIn K mainGlobals "dict" = some none)
    (z_set : PySem.W.nsIn K mainGlobals "set" = some none)
    (z_enumerate : PySem.W.nsIn K mainGlobals "enumerate" = some none)
    (z_len : PySem.W.nsIn K mainGlobals "len" = some none)
    (z_isinstance : PySem.W.nsIn K mainGlobals "isinstance" = some none)
    (z_min : PySem.W.nsIn K mainGlobals "min" = some none)
    (z_max : PySem.W.nsIn K mainGlobals "max" = some none)
    (z_sum : PySem.W.nsIn K mainGlobals "sum" = some none)
    (z_all : PySem.W.nsIn K mainGlobals "all" = some none)
    (z_ValueError : PySem.W.nsIn K mainGlobals "ValueError" = some none)
    (z_permutations : PySem.W.nsIn K mainGlobals "permutations" = some (some (.type PM)))
    (xg_TableError : PySem.W.nsIn K mainGlobals "TableError" = some (some (.ref C_TableError))) (xq_TableError : PySem.W.excIn K C_TableError [.type "ValueError", .type "Exception", .type "BaseException", .type "object"] "ValueError.__new__" = true) (xk_TableError : PySem.W.keepIn K (.ref C_TableError) = true) (xb_TableError : PySem.W.subIn K (.ref C_TableError) (.type "BaseException") = some true) (xt_TableError : PySem.W.typeIn K (.ref C_TableError) = some (.type "type"))
    (xg_NoTable : PySem.W.nsIn K mainGlobals "NoTable" = some (some (.ref C_NoTable))) (xq_NoTable : PySem.W.excIn K C_NoTable [.type "ValueError", .type "Exception", .type "BaseException", .type "object"] "ValueError.__new__" = true) (xk_NoTable : PySem.W.keepIn K (.ref C_NoTable) = true) (xb_NoTable : PySem.W.subIn K (.ref C_NoTable) (.type "BaseException") = some true) (xt_NoTable : PySem.W.typeIn K (.ref C_NoTable) = some (.type "type"))
    (xg_NoSign : PySem.W.nsIn K mainGlobals "NoSign" = some (some (.ref C_NoSign))) (xq_NoSign : PySem.W.excIn K C_NoSign [.type "ValueError", .type "Exception", .type "BaseException", .type "object"] "ValueError.__new__" = true) (xk_NoSign : PySem.W.keepIn K (.ref C_NoSign) = true) (xb_NoSign : PySem.W.subIn K (.ref C_NoSign) (.type "BaseException") = some true) (xt_NoSign : PySem.W.typeIn K (.ref C_NoSign) = some (.type "type"))
    (xg_NoHand : PySem.W.nsIn K mainGlobals "NoHand" = some (some (.ref C_NoHand))) (xq_NoHand : PySem.W.excIn K C_NoHand [.type "ValueError", .type "Exception", .type "BaseException", .type "object"] "ValueError.__new__" = true) (xk_NoHand : PySem.W.keepIn K (.ref C_NoHand) = true) (xb_NoHand : PySem.W.subIn K (.ref C_NoHand) (.type "BaseException") = some true) (xt_NoHand : PySem.W.typeIn K (.ref C_NoHand) = some (.type "type"))
    (xg_NoSaying : PySem.W.nsIn K mainGlobals "NoSaying" = some (some (.ref C_NoSaying))) (xq_NoSaying : PySem.W.excIn K C_NoSaying [.type "ValueError", .type "Exception", .type "BaseException", .type "object"] "ValueError.__new__" = true) (xk_NoSaying : PySem.W.keepIn K (.ref C_NoSaying) = true) (xb_NoSaying : PySem.W.subIn K (.ref C_NoSaying) (.type "BaseException") = some true) (xt_NoSaying : PySem.W.typeIn K (.ref C_NoSaying) = some (.type "type"))
    (xg_Over : PySem.W.nsIn K mainGlobals "Over" = some (some (.ref C_Over))) (xq_Over : PySem.W.excIn K C_Over [.type "ValueError", .type "Exception", .type "BaseException", .type "object"] "ValueError.__new__" = true) (xk_Over : PySem.W.keepIn K (.ref C_Over) = true) (xb_Over : PySem.W.subIn K (.ref C_Over) (.type "BaseException") = some true) (xt_Over : PySem.W.typeIn K (.ref C_Over) = some (.type "type"))
    (xg_NotOver : PySem.W.nsIn K mainGlobals "NotOver" = some (some (.ref C_NotOver))) (xq_NotOver : PySem.W.excIn K C_NotOver [.type "ValueError", .type "Exception", .type "BaseException", .type "object"] "ValueError.__new__" = true) (xk_NotOver : PySem.W.keepIn K (.ref C_NotOver) = true) (xb_NotOver : PySem.W.subIn K (.ref C_NotOver) (.type "BaseException") = some true) (xt_NotOver : PySem.W.typeIn K (.ref C_NotOver) = some (.type "type"))
    (tk_P1 : K.lookup cc_is_sign = some ⟨ke_P1, kd_P1, .fields kv_P1, ks_P1⟩) (tv_P1 : kv_P1[11]? = some (.ref P1)) (tn_P1 : K.lookup P1 = none) (th_P1 : TabFor K h "is_sign")
    (tk_P2 : K.lookup cc_is_path = some ⟨ke_P2, kd_P2, .fields kv_P2, ks_P2⟩) (tv_P2 : kv_P2[11]? = some (.ref P2)) (tn_P2 : K.lookup P2 = none) (th_P2 : TabFor K h "is_path")
    (gl_LETTERS : PySem.W.nsIn K mainGlobals "LETTERS" = some (some (.str "abcdefghijklmnopqrstuvwxyz" tz_LETTERS)))
    (e1_NoTable : PySem.W.findIn K (.ref C_NoTable) "__getattribute__" = some (some (.builtin "BaseException.__getattribute__")))
    (e2_NoTable : PySem.W.findIn K (.ref C_NoTable) "__getattr__" = some none)
    (e3_NoTable : PySem.W.hasDictIn K C_NoTable = true)
    (e4_NoTable : PySem.W.findIn K (.ref C_NoTable) "__class__" = some (some (.builtin "object.__class__")))
    (e7_NoTable : PySem.W.mroIn K C_NoTable (.type "object") = some true)
    (e8_NoTable : PySem.W.subIn K (.ref C_NoTable) (.ref C_TableError) = some true)
    (e10_NoTable : PySem.W.subIn K (.ref C_NoTable) (.type "ValueError") = some true)
    (e1_NoSign : PySem.W.findIn K (.ref C_NoSign) "__getattribute__" = some (some (.builtin "BaseException.__getattribute__")))
    (e2_NoSign : PySem.W.findIn K (.ref C_NoSign) "__getattr__" = some none)
    (e3_NoSign : PySem.W.hasDictIn K C_NoSign = true)
    (e4_NoSign : PySem.W.findIn K (.ref C_NoSign) "__class__" = some (some (.builtin "object.__class__")))
    (e7_NoSign : PySem.W.mroIn K C_NoSign (.type "object") = some true)
    (e8_NoSign : PySem.W.subIn K (.ref C_NoSign) (.ref C_TableError) = some true)
    (e10_NoSign : PySem.W.subIn K (.ref C_NoSign) (.type "ValueError") = some true)
    (e1_NoHand : PySem.W.findIn K (.ref C_NoHand) "__getattribute__" = some (some (.builtin "BaseException.__getattribute__")))
    (e2_NoHand : PySem.W.findIn K (.ref C_NoHand) "__getattr__" = some none)
    (e3_NoHand : PySem.W.hasDictIn K C_NoHand = true)
    (e4_NoHand : PySem.W.findIn K (.ref C_NoHand) "__class__" = some (some (.builtin "object.__class__")))
    (e7_NoHand : PySem.W.mroIn K C_NoHand (.type "object") = some true)
    (e8_NoHand : PySem.W.subIn K (.ref C_NoHand) (.ref C_TableError) = some true)
    (e10_NoHand : PySem.W.subIn K (.ref C_NoHand) (.type "ValueError") = some true)
    (e1_NoSaying : PySem.W.findIn K (.ref C_NoSaying) "__getattribute__" = some (some (.builtin "BaseException.__getattribute__")))
    (e2_NoSaying : PySem.W.findIn K (.ref C_NoSaying) "__getattr__" = some none)
    (e3_NoSaying : PySem.W.hasDictIn K C_NoSaying = true)
    (e4_NoSaying : PySem.W.findIn K (.ref C_NoSaying) "__class__" = some (some (.builtin "object.__class__")))
    (e7_NoSaying : PySem.W.mroIn K C_NoSaying (.type "object") = some true)
    (e8_NoSaying : PySem.W.subIn K (.ref C_NoSaying) (.ref C_TableError) = some true)
    (e10_NoSaying : PySem.W.subIn K (.ref C_NoSaying) (.type "ValueError") = some true)
    (e1_Over : PySem.W.findIn K (.ref C_Over) "__getattribute__" = some (some (.builtin "BaseException.__getattribute__")))
    (e2_Over : PySem.W.findIn K (.ref C_Over) "__getattr__" = some none)
    (e3_Over : PySem.W.hasDictIn K C_Over = true)
    (e4_Over : PySem.W.findIn K (.ref C_Over) "__class__" = some (some (.builtin "object.__class__")))
    (e7_Over : PySem.W.mroIn K C_Over (.type "object") = some true)
    (e8_Over : PySem.W.subIn K (.ref C_Over) (.ref C_TableError) = some true)
    (e10_Over : PySem.W.subIn K (.ref C_Over) (.type "ValueError") = some true)
    (e1_NotOver : PySem.W.findIn K (.ref C_NotOver) "__getattribute__" = some (some (.builtin "BaseException.__getattribute__")))
    (e2_NotOver : PySem.W.findIn K (.ref C_NotOver) "__getattr__" = some none)
    (e3_NotOver : PySem.W.hasDictIn K C_NotOver = true)
    (e4_NotOver : PySem.W.findIn K (.ref C_NotOver) "__class__" = some (some (.builtin "object.__class__")))
    (e7_NotOver : PySem.W.mroIn K C_NotOver (.type "object") = some true)
    (e8_NotOver : PySem.W.subIn K (.ref C_NotOver) (.ref C_TableError) = some true)
    (e10_NotOver : PySem.W.subIn K (.ref C_NotOver) (.type "ValueError") = some true)
    (e5 : PySem.W.specialIn K (.builtin "object.__class__") "__get__" = some (some (.builtin "getset_descriptor.__get__")))
    (e6 : PySem.W.takesIn K (.builtin "object.__class__") = some true)
    (e9 : PySem.W.hasDictIn K C_TableError = true)
    (s_NoTable_NoSign : PySem.W.subIn K (.ref C_NoTable) (.ref C_NoSign) = some false)
    (n_NoTable_NoSign : (Value.ref C_NoTable == Value.ref C_NoSign) = false)
    (s_NoTable_NoHand : PySem.W.subIn K (.ref C_NoTable) (.ref C_NoHand) = some false)
    (n_NoTable_NoHand : (Value.ref C_NoTable == Value.ref C_NoHand) = false)
    (s_NoTable_NoSaying : PySem.W.subIn K (.ref C_NoTable) (.ref C_NoSaying) = some false)
    (n_NoTable_NoSaying : (Value.ref C_NoTable == Value.ref C_NoSaying) = false)
    (s_NoTable_Over : PySem.W.subIn K (.ref C_NoTable) (.ref C_Over) = some false)
    (n_NoTable_Over : (Value.ref C_NoTable == Value.ref C_Over) = false)
    (s_NoTable_NotOver : PySem.W.subIn K (.ref C_NoTable) (.ref C_NotOver) = some false)
    (n_NoTable_NotOver : (Value.ref C_NoTable == Value.ref C_NotOver) = false)
    (s_NoSign_NoTable : PySem.W.subIn K (.ref C_NoSign) (.ref C_NoTable) = some false)
    (n_NoSign_NoTable : (Value.ref C_NoSign == Value.ref C_NoTable) = false)
    (s_NoSign_NoHand : PySem.W.subIn K (.ref C_NoSign) (.ref C_NoHand) = some false)
    (n_NoSign_NoHand : (Value.ref C_NoSign == Value.ref C_NoHand) = false)
    (s_NoSign_NoSaying : PySem.W.subIn K (.ref C_NoSign) (.ref C_NoSaying) = some false)
    (n_NoSign_NoSaying : (Value.ref C_NoSign == Value.ref C_NoSaying) = false)
    (s_NoSign_Over : PySem.W.subIn K (.ref C_NoSign) (.ref C_Over) = some false)
    (n_NoSign_Over : (Value.ref C_NoSign == Value.ref C_Over) = false)
    (s_NoSign_NotOver : PySem.W.subIn K (.ref C_NoSign) (.ref C_NotOver) = some false)
    (n_NoSign_NotOver : (Value.ref C_NoSign == Value.ref C_NotOver) = false)
    (s_NoHand_NoTable : PySem.W.subIn K (.ref C_NoHand) (.ref C_NoTable) = some false)
    (n_NoHand_NoTable : (Value.ref C_NoHand == Value.ref C_NoTable) = false)
    (s_NoHand_NoSign : PySem.W.subIn K (.ref C_NoHand) (.ref C_NoSign) = some false)
    (n_NoHand_NoSign : (Value.ref C_NoHand == Value.ref C_NoSign) = false)
    (s_NoHand_NoSaying : PySem.W.subIn K (.ref C_NoHand) (.ref C_NoSaying) = some false)
    (n_NoHand_NoSaying : (Value.ref C_NoHand == Value.ref C_NoSaying) = false)
    (s_NoHand_Over : PySem.W.subIn K (.ref C_NoHand) (.ref C_Over) = some false)
    (n_NoHand_Over : (Value.ref C_NoHand == Value.ref C_Over) = false)
    (s_NoHand_NotOver : PySem.W.subIn K (.ref C_NoHand) (.ref C_NotOver) = some false)
    (n_NoHand_NotOver : (Value.ref C_NoHand == Value.ref C_NotOver) = false)
    (s_NoSaying_NoTable : PySem.W.subIn K (.ref C_NoSaying) (.ref C_NoTable) = some false)
    (n_NoSaying_NoTable : (Value.ref C_NoSaying == Value.ref C_NoTable) = false)
    (s_NoSaying_NoSign : PySem.W.subIn K (.ref C_NoSaying) (.ref C_NoSign) = some false)
    (n_NoSaying_NoSign : (Value.ref C_NoSaying == Value.ref C_NoSign) = false)
    (s_NoSaying_NoHand : PySem.W.subIn K (.ref C_NoSaying) (.ref C_NoHand) = some false)
    (n_NoSaying_NoHand : (Value.ref C_NoSaying == Value.ref C_NoHand) = false)
    (s_NoSaying_Over : PySem.W.subIn K (.ref C_NoSaying) (.ref C_Over) = some false)
    (n_NoSaying_Over : (Value.ref C_NoSaying == Value.ref C_Over) = false)
    (s_NoSaying_NotOver : PySem.W.subIn K (.ref C_NoSaying) (.ref C_NotOver) = some false)
    (n_NoSaying_NotOver : (Value.ref C_NoSaying == Value.ref C_NotOver) = false)
    (s_Over_NoTable : PySem.W.subIn K (.ref C_Over) (.ref C_NoTable) = some false)
    (n_Over_NoTable : (Value.ref C_Over == Value.ref C_NoTable) = false)
    (s_Over_NoSign : PySem.W.subIn K (.ref C_Over) (.ref C_NoSign) = some false)
    (n_Over_NoSign : (Value.ref C_Over == Value.ref C_NoSign) = false)
    (s_Over_NoHand : PySem.W.subIn K (.ref C_Over) (.ref C_NoHand) = some false)
    (n_Over_NoHand : (Value.ref C_Over == Value.ref C_NoHand) = false)
    (s_Over_NoSaying : PySem.W.subIn K (.ref C_Over) (.ref C_NoSaying) = some false)
    (n_Over_NoSaying : (Value.ref C_Over == Value.ref C_NoSaying) = false)
    (s_Over_NotOver : PySem.W.subIn K (.ref C_Over) (.ref C_NotOver) = some false)
    (n_Over_NotOver : (Value.ref C_Over == Value.ref C_NotOver) = false)
    (s_NotOver_NoTable : PySem.W.subIn K (.ref C_NotOver) (.ref C_NoTable) = some false)
    (n_NotOver_NoTable : (Value.ref C_NotOver == Value.ref C_NoTable) = false)
    (s_NotOver_NoSign : PySem.W.subIn K (.ref C_NotOver) (.ref C_NoSign) = some false)
    (n_NotOver_NoSign : (Value.ref C_NotOver == Value.ref C_NoSign) = false)
    (s_NotOver_NoHand : PySem.W.subIn K (.ref C_NotOver) (.ref C_NoHand) = some false)
    (n_NotOver_NoHand : (Value.ref C_NotOver == Value.ref C_NoHand) = false)
    (s_NotOver_NoSaying : PySem.W.subIn K (.ref C_NotOver) (.ref C_NoSaying) = some false)
    (n_NotOver_NoSaying : (Value.ref C_NotOver == Value.ref C_NoSaying) = false)
    (s_NotOver_Over : PySem.W.subIn K (.ref C_NotOver) (.ref C_Over) = some false)
    (n_NotOver_Over : (Value.ref C_NotOver == Value.ref C_Over) = false)
    (n_nd : List.Nodup [C_NoTable, C_NoSign, C_NoHand, C_NoSaying, C_Over, C_NotOver]) :
    LamX.LawAtS l w K CX0 9 63 "_law_script" mg fa h := by
  have e := hfa.symm.trans (PySem.W.mg_of X G a41)
  cases e
  have T : Bt mg := ⟨PySem.W.mg_none_of X G z_range, PySem.W.mg_none_of X G z_str, PySem.W.mg_none_of X G z_int, PySem.W.mg_none_of X G z_bool, PySem.W.mg_none_of X G z_list, PySem.W.mg_none_of X G z_tuple, PySem.W.mg_none_of X G z_dict, PySem.W.mg_none_of X G z_set, PySem.W.mg_none_of X G z_enumerate, PySem.W.mg_none_of X G z_len, PySem.W.mg_none_of X G z_isinstance, PySem.W.mg_none_of X G z_min, PySem.W.mg_none_of X G z_max, PySem.W.mg_none_of X G z_sum, PySem.W.mg_none_of X G z_all⟩
  have TP : mg "permutations" = some (.type PM) := PySem.W.mg_of X G z_permutations
  have bv : mg "ValueError" = none := PySem.W.mg_none_of X G z_ValueError
  have x_TableError : ExX K mg "TableError" C_TableError := ⟨PySem.W.mg_of X G xg_TableError, xq_TableError, xk_TableError, xb_TableError, xt_TableError⟩
  have x_NoTable : ExX K mg "NoTable" C_NoTable := ⟨PySem.W.mg_of X G xg_NoTable, xq_NoTable, xk_NoTable, xb_NoTable, xt_NoTable⟩
  have x_NoSign : ExX K mg "NoSign" C_NoSign := ⟨PySem.W.mg_of X G xg_NoSign, xq_NoSign, xk_NoSign, xb_NoSign, xt_NoSign⟩
  have x_NoHand : ExX K mg "NoHand" C_NoHand := ⟨PySem.W.mg_of X G xg_NoHand, xq_NoHand, xk_NoHand, xb_NoHand, xt_NoHand⟩
  have x_NoSaying : ExX K mg "NoSaying" C_NoSaying := ⟨PySem.W.mg_of X G xg_NoSaying, xq_NoSaying, xk_NoSaying, xb_NoSaying, xt_NoSaying⟩
  have x_Over : ExX K mg "Over" C_Over := ⟨PySem.W.mg_of X G xg_Over, xq_Over, xk_Over, xb_Over, xt_Over⟩
  have x_NotOver : ExX K mg "NotOver" C_NotOver := ⟨PySem.W.mg_of X G xg_NotOver, xq_NotOver, xk_NotOver, xb_NotOver, xt_NotOver⟩
  have S6 : Six K [C_NoTable, C_NoSign, C_NoHand, C_NoSaying, C_Over, C_NotOver] := ⟨rfl, n_nd, (all6 ⟨e1_NoTable, e2_NoTable, xb_NoTable, e3_NoTable, e4_NoTable, e5, e6, e7_NoTable⟩ ⟨e1_NoSign, e2_NoSign, xb_NoSign, e3_NoSign, e4_NoSign, e5, e6, e7_NoSign⟩ ⟨e1_NoHand, e2_NoHand, xb_NoHand, e3_NoHand, e4_NoHand, e5, e6, e7_NoHand⟩ ⟨e1_NoSaying, e2_NoSaying, xb_NoSaying, e3_NoSaying, e4_NoSaying, e5, e6, e7_NoSaying⟩ ⟨e1_Over, e2_Over, xb_Over, e3_Over, e4_Over, e5, e6, e7_Over⟩ ⟨e1_NotOver, e2_NotOver, xb_NotOver, e3_NotOver, e4_NotOver, e5, e6, e7_NotOver⟩), (all6 (all6 kk_yes (kk_no n_NoTable_NoSign e3_NoSign xt_NoSign s_NoTable_NoSign) (kk_no n_NoTable_NoHand e3_NoHand xt_NoHand s_NoTable_NoHand) (kk_no n_NoTable_NoSaying e3_NoSaying xt_NoSaying s_NoTable_NoSaying) (kk_no n_NoTable_Over e3_Over xt_Over s_NoTable_Over) (kk_no n_NoTable_NotOver e3_NotOver xt_NotOver s_NoTable_NotOver)) (all6 (kk_no n_NoSign_NoTable e3_NoTable xt_NoTable s_NoSign_NoTable) kk_yes (kk_no n_NoSign_NoHand e3_NoHand xt_NoHand s_NoSign_NoHand) (kk_no n_NoSign_NoSaying e3_NoSaying xt_NoSaying s_NoSign_NoSaying) (kk_no n_NoSign_Over e3_Over xt_Over s_NoSign_Over) (kk_no n_NoSign_NotOver e3_NotOver xt_NotOver s_NoSign_NotOver)) (all6 (kk_no n_NoHand_NoTable e3_NoTable xt_NoTable s_NoHand_NoTable) (kk_no n_NoHand_NoSign e3_NoSign xt_NoSign s_NoHand_NoSign) kk_yes (kk_no n_NoHand_NoSaying e3_NoSaying xt_NoSaying s_NoHand_NoSaying) (kk_no n_NoHand_Over e3_Over xt_Over s_NoHand_Over) (kk_no n_NoHand_NotOver e3_NotOver xt_NotOver s_NoHand_NotOver)) (all6 (kk_no n_NoSaying_NoTable e3_NoTable xt_NoTable s_NoSaying_NoTable) (kk_no n_NoSaying_NoSign e3_NoSign xt_NoSign s_NoSaying_NoSign) (kk_no n_NoSaying_NoHand e3_NoHand xt_NoHand s_NoSaying_NoHand) kk_yes (kk_no n_NoSaying_Over e3_Over xt_Over s_NoSaying_Over) (kk_no n_NoSaying_NotOver e3_NotOver xt_NotOver s_NoSaying_NotOver)) (all6 (kk_no n_Over_NoTable e3_NoTable xt_NoTable s_Over_NoTable) (kk_no n_Over_NoSign e3_NoSign xt_NoSign s_Over_NoSign) (kk_no n_Over_NoHand e3_NoHand xt_NoHand s_Over_NoHand) (kk_no n_Over_NoSaying e3_NoSaying xt_NoSaying s_Over_NoSaying) kk_yes (kk_no n_Over_NotOver e3_NotOver xt_NotOver s_Over_NotOver)) (all6 (kk_no n_NotOver_NoTable e3_NoTable xt_NoTable s_NotOver_NoTable) (kk_no n_NotOver_NoSign e3_NoSign xt_NoSign s_NotOver_NoSign) (kk_no n_NotOver_NoHand e3_NoHand xt_NoHand s_NotOver_NoHand) (kk_no n_NotOver_NoSaying e3_NoSaying xt_NoSaying s_NotOver_NoSaying) (kk_no n_NotOver_Over e3_Over xt_Over s_NotOver_Over) kk_yes)), (all6 (kit_ve e10_NoTable) (kit_ve e10_NoSign) (kit_ve e10_NoHand) (kit_ve e10_NoSaying) (kit_ve e10_Over) (kit_ve e10_NotOver))⟩
  have em6 : ∀ D ∈ [C_NoTable, C_NoSign, C_NoHand, C_NoSaying, C_Over, C_NotOver], PySem.W.exmOne K (.ref D) (.ref C_TableError) = some true := (all6 (PySem.W.exm_ref xb_TableError e9 xt_TableError e8_NoTable) (PySem.W.exm_ref xb_TableError e9 xt_TableError e8_NoSign) (PySem.W.exm_ref xb_TableError e9 xt_TableError e8_NoHand) (PySem.W.exm_ref xb_TableError e9 xt_TableError e8_NoSaying) (PySem.W.exm_ref xb_TableError e9 xt_TableError e8_Over) (PySem.W.exm_ref xb_TableError e9 xt_TableError e8_NotOver))
  have gL : mg "LETTERS" = some (.str LETTERS tz_LETTERS) := PySem.W.mg_of X G gl_LETTERS
  have TC : TabC K C_Table := ⟨⟨pg_Table, hd_Table, po_Table, sa_Table⟩, na0_Table, na1_Table, na2_Table, na3_Table, na4_Table, na5_Table⟩
  have F1 := fun_mk (st := s_is_whole) l1 c1 k1
  have b1 := F1.binds (ps := ["value", "low", "high"]) fun _ _ _ _ _ _ us hl => match us, hl with | [_, _, _], _ => rfl
  have F2 := fun_mk (st := s_check_table) l2 c2 k2
  have b2 := F2.binds (ps := ["hands", "most"]) fun _ _ _ _ _ _ us hl => match us, hl with | [_, _], _ => rfl
  have F3 := fun_mk (st := s_is_sign) l3 c3 k3
  have b3 := F3.binds (ps := ["value"]) fun _ _ _ _ _ _ us hl => match us, hl with | [_], _ => rfl
  have F4 := fun_mk (st := s_check_sign) l4 c4 k4
  have b4 := F4.binds (ps := ["value"]) fun _ _ _ _ _ _ us hl => match us, hl with | [_], _ => rfl
  have F5 := fun_mk (st := s_is_hand) l5 c5 k5
  have b5 := F5.binds (ps := ["hands", "value"]) fun _ _ _ _ _ _ us hl => match us, hl with | [_, _], _ => rfl
  have F6 := fun_mk (st := s_check_hand) l6 c6 k6
  have b6 := F6.binds (ps := ["hands", "value"]) fun _ _ _ _ _ _ us hl => match us, hl with | [_, _], _ => rfl
  have F7 := fun_mk (st := s_check_liars) l7 c7 k7
  have b7 := F7.binds (ps := ["hands", "liars"]) fun _ _ _ _ _ _ us hl => match us, hl with | [_, _], _ => rfl
  have F8 := fun_mk (st := s_is_path) l8 c8 k8
  have b8 := F8.binds (ps := ["hands", "rounds", "value"]) fun _ _ _ _ _ _ us hl => match us, hl with | [_, _, _], _ => rfl
  have F9 := fun_mk (st := s_is_saying) l9 c9 k9
  have b9 := F9.binds (ps := ["hands", "liars", "rounds", "value"]) fun _ _ _ _ _ _ us hl => match us, hl with | [_, _, _, _], _ => rfl
  have F10 := fun_mk (st := s_check_lies) l10 c10 k10
  have b10 := F10.binds (ps := ["hands", "liars", "rounds", "lies"]) fun _ _ _ _ _ _ us hl => match us, hl with | [_, _, _, _], _ => rfl
  have F11 := fun_mk (st := s_hearers) l11 c11 k11
  have b11 := F11.binds (ps := ["hands", "path"]) fun _ _ _ _ _ _ us hl => match us, hl with | [_, _], _ => rfl
  have F12 := fun_mk (st := s_paths) l12 c12 k12
  have b12 := F12.binds (ps := ["hands", "most"]) fun _ _ _ _ _ _ us hl => match us, hl with | [_, _], _ => rfl
  have F13 := fun_mk (st := s_vote) l13 c13 k13
  have b13 := F13.binds (ps := ["signs"]) fun _ _ _ _ _ _ us hl => match us, hl with | [_], _ => rfl
  have F14 := fun_mk (st := s_settled) l14 c14 k14
  have b14 := F14.binds (ps := ["hands", "most", "told", "hand", "path"]) fun _ _ _ _ _ _ us hl => match us, hl with | [_, _, _, _, _], _ => rfl
  have F15 := fun_mk (st := s_Table___init__) l15 c15 k15
  have b15 := F15.binds (ps := ["self", "hands", "most", "sign", "liars"]) fun _ _ _ _ _ _ us hl => match us, hl with | [_, _, _, _, _], _ => rfl
  have F16 := fun_mk (st := s_Table__is_over) l16 c16 k16
  have b16 := F16.binds (ps := ["self"]) fun _ _ _ _ _ _ us hl => match us, hl with | [_], _ => rfl
  have F17 := fun_mk (st := s_Table__honest_word) l17 c17 k17
  have b17 := F17.binds (ps := ["self", "path"]) fun _ _ _ _ _ _ us hl => match us, hl with | [_, _], _ => rfl
  have F18 := fun_mk (st := s_Table__say_along) l18 c18 k18
  have b18 := F18.binds (ps := ["self", "path", "lies"]) fun _ _ _ _ _ _ us hl => match us, hl with | [_, _, _], _ => rfl
  have F19 := fun_mk (st := s_Table_play) l19 c19 k19
  have b19 := F19.binds (ps := ["self", "lies"]) fun _ _ _ _ _ _ us hl => match us, hl with | [_, _], _ => rfl
  have F20 := fun_mk (st := s_Table_told) l20 c20 k20
  have b20 := F20.binds (ps := ["self", "hand"]) fun _ _ _ _ _ _ us hl => match us, hl with | [_, _], _ => rfl
  have F21 := fun_mk (st := s_Table_says) l21 c21 k21
  have b21 := F21.binds (ps := ["self", "hand"]) fun _ _ _ _ _ _ us hl => match us, hl with | [_, _], _ => rfl
  have F22 := fun_mk (st := s_law_cell_at) l22 c22 k22
  have b22 := F22.binds (ps := ["_law_script", "_law_k"]) fun _ _ _ _ _ _ us hl => match us, hl with | [_, _], _ => rfl
  have F23 := fun_mk (st := s_law_signs) l23 c23 k23
  have b23 := F23.binds (ps := ["_law_cell"]) fun _ _ _ _ _ _ us hl => match us, hl with | [_], _ => rfl
  have F24 := fun_mk (st := s_law_table) l24 c24 k24
  have b24 := F24.binds (ps := ["_law_cell"]) fun _ _ _ _ _ _ us hl => match us, hl with | [_], _ => rfl
  have F25 := fun_mk (st := s_law_paths) l25 c25 k25
  have b25 := F25.binds (ps := ["_law_hands_here", "_law_size"]) fun _ _ _ _ _ _ us hl => match us, hl with | [_, _], _ => rfl
  have F26 := fun_mk (st := s_law_liars) l26 c26 k26
  have b26 := F26.binds (ps := ["_law_cell", "_law_hands_here", "_law_many"]) fun _ _ _ _ _ _ us hl => match us, hl with | [_, _, _], _ => rfl
  have F27 := fun_mk (st := s_law_mixed) l27 c27 k27
  have b27 := F27.binds (ps := ["_law_script", "_law_k"]) fun _ _ _ _ _ _ us hl => match us, hl with | [_, _], _ => rfl
  have F28 := fun_mk (st := s_law_lie) l28 c28 k28
  have b28 := F28.binds (ps := ["_law_script", "_law_signs_here", "_law_path", "_law_hearer", "_law_k"]) fun _ _ _ _ _ _ us hl => match us, hl with | [_, _, _, _, _], _ => rfl
  have F29 := fun_mk (st := s_law_lies) l29 c29 k29
  have b29 := F29.binds (ps := ["_law_script", "_law_hands_here", "_law_most", "_law_signs_here", "_law_liars_here"]) fun _ _ _ _ _ _ us hl => match us, hl with | [_, _, _, _, _], _ => rfl
  have F30 := fun_mk (st := s_law_play) l30 c30 k30
  have b30 := F30.binds (ps := ["_law_hands_here", "_law_most", "_law_sign", "_law_lies_here"]) fun _ _ _ _ _ _ us hl => match us, hl with | [_, _, _, _], _ => rfl
  have F31 := fun_mk (st := s_law_of) l31 c31 k31
  have b31 := F31.binds (ps := ["_law_lies_here", "_law_size"]) fun _ _ _ _ _ _ us hl => match us, hl with | [_, _], _ => rfl
  have F32 := fun_mk (st := s_law_same) l32 c32 k32
  have b32 := F32.binds (ps := ["_law_found", "_law_due"]) fun _ _ _ _ _ _ us hl => match us, hl with | [_, _], _ => rfl
  have F33 := fun_mk (st := s_law_told) l33 c33 k33
  have b33 := F33.binds (ps := ["_law_found", "_law_due"]) fun _ _ _ _ _ _ us hl => match us, hl with | [_, _], _ => rfl
  have F34 := fun_mk (st := s_law_word) l34 c34 k34
  have b34 := F34.binds (ps := ["_law_e"]) fun _ _ _ _ _ _ us hl => match us, hl with | [_], _ => rfl
  have F35 := fun_mk (st := s_law_asked) l35 c35 k35
  have b35 := F35.binds (ps := ["_law_way", "_law_table_here", "_law_thing"]) fun _ _ _ _ _ _ us hl => match us, hl with | [_, _, _], _ => rfl
  have F36 := fun_mk (st := s_law_heard) l36 c36 k36
  have b36 := F36.binds (ps := ["_law_path", "_law_hands_here", "_law_cell"]) fun _ _ _ _ _ _ us hl => match us, hl with | [_, _, _], _ => rfl
  have F37 := fun_mk (st := s_law_wrong_pair) l37 c37 k37
  have b37 := F37.binds (ps := ["_law_cell", "_law_hands_here", "_law_size", "_law_liars_here"]) fun _ _ _ _ _ _ us hl => match us, hl with | [_, _, _, _], _ => rfl
  have F38 := fun_mk (st := s_law_spoilt) l38 c38 k38
  have b38 := F38.binds (ps := ["_law_lies_here", "_law_cell", "_law_wrong"]) fun _ _ _ _ _ _ us hl => match us, hl with | [_, _, _], _ => rfl
  have F39 := fun_mk (st := s_law_made) l39 c39 k39
  have b39 := F39.binds (ps := ["_law_cell", "_law_hands_here", "_law_most", "_law_sign"]) fun _ _ _ _ _ _ us hl => match us, hl with | [_, _, _, _], _ => rfl
  have F40 := fun_mk (st := s_law_hands) l40 c40 k40
  have b40 := F40.binds (ps := ["_law_table_here", "_law_hands_here", "_law_cell", "_law_is_over"]) fun _ _ _ _ _ _ us hl => match us, hl with | [_, _, _, _], _ => rfl
  have F41 := fun_mk (st := s_law) l41 c41 k41
  have tb_P1 : PySem.W.tabIn K "is_sign" = some (cc_is_sign, P1) := by simp only [PySem.W.tabIn, a3, l3, show ∀ x q A B S a b c e f g h, (PySem.W.fnOf x q A B S a b c e f g h).code = g from fun _ _ _ _ _ _ _ _ _ _ _ _ => rfl, tk_P1, tv_P1]
  have hc_is_sign := PySem.W.law_code X G tb_P1 (PySem.W.mg_of X G a3) (X _ _ l3) rfl
  have ht_P1 := th_P1 _ _ tb_P1
  have tb_P2 : PySem.W.tabIn K "is_path" = some (cc_is_path, P2) := by simp only [PySem.W.tabIn, a8, l8, show ∀ x q A B S a b c e f g h, (PySem.W.fnOf x q A B S a b c e f g h).code = g from fun _ _ _ _ _ _ _ _ _ _ _ _ => rfl, tk_P2, tv_P2]
  have hc_is_path := PySem.W.law_code X G tb_P2 (PySem.W.mg_of X G a8) (X _ _ l8) rfl
  have ht_P2 := th_P2 _ _ tb_P2
  refine ⟨PySem.W.fnOf "law" "law" (defArgs s_law) (defBody s_law) (defScope s_law) .none kV41 dc41 pm41 an41 cd41 ct41, [(cc_is_sign, P1), (cc_is_path, P2)], spLawR K P1 P2, ?_, ?_, ?_, fun s v => .of_eq rfl, fun H a ns hl _ hH hS => ⟨a, ns, rfl, hS, hl, tabG0 (hH (cc_is_sign, P1) (by simp)), tabG0 (hH (cc_is_path, P2) (by simp)), fun _ => rfl⟩, fun base _ _ TBs => ?_⟩
  · intro p hp
    simp only [List.mem_cons, List.not_mem_nil, or_false] at hp
    rcases hp with rfl | rfl
    · exact ht_P1.2
    · exact ht_P2.2
  · intro p hp
    simp only [List.mem_cons, List.not_mem_nil, or_false] at hp
    rcases hp with rfl | rfl
    · exact tn_P1
    · exact tn_P2
  · intro p hp
    simp only [List.mem_cons, List.not_mem_nil, or_false] at hp
    rcases hp with rfl | rfl
    · exact ht_P1.1
    · exact ht_P2.1
  have TB_P1 : GxR.TabB base mg cc_is_sign P1 := ⟨(TBs (cc_is_sign, P1) (by simp)).code, (TBs (cc_is_sign, P1) (by simp)).bm, (TBs (cc_is_sign, P1) (by simp)).gP⟩
  have TB_P2 : GxR.TabB base mg cc_is_path P2 := ⟨(TBs (cc_is_path, P2) (by simp)).code, (TBs (cc_is_path, P2) (by simp)).bm, (TBs (cc_is_path, P2) (by simp)).gP⟩
  have c_is_whole : Cal l.prog w K mg base CX0 1 "is_whole" ["value", "low", "high"] (spWholeX K) f1 _ := ⟨ok_is_whole F1 T, PySem.W.mg_of X G a1, k1, b1⟩
  have cx_check_table : Cal l.prog w K mg base (L2.CX l.prog w) 2 "check_table" ["hands", "most"] (spCheckX K C_NoTable) f2 _ := ⟨ok_check_table F2 T x_NoTable c_is_whole, PySem.W.mg_of X G a2, k2, b2⟩
  have c_is_sign : Cal l.prog w K mg base CX0 1 "is_sign" ["value"] (spSgn P1) f3 _ := ⟨ok_is_sign F3 T hc_is_sign TB_P1 gL, PySem.W.mg_of X G a3, k3, b3⟩
  have cx_check_sign : Cal l.prog w K mg base (L2.CX l.prog w) 2 "check_sign" ["value"] (spCheckSgn P1 C_NoSign) f4 _ := ⟨ok_check_sign F4 x_NoSign c_is_sign, PySem.W.mg_of X G a4, k4, b4⟩
  have c_is_hand : Cal l.prog w K mg base CX0 2 "is_hand" ["hands", "value"] (spHand K) f5 _ := ⟨ok_is_hand F5 c_is_whole, PySem.W.mg_of X G a5, k5, b5⟩
  have cx_check_hand : Cal l.prog w K mg base (L2.CX l.prog w) 3 "check_hand" ["hands", "value"] (spCheckHand K C_NoHand) f6 _ := ⟨ok_check_hand F6 x_NoHand c_is_hand, PySem.W.mg_of X G a6, k6, b6⟩
  have cx_check_liars : Cal l.prog w K mg base (L2.CX l.prog w) 4 "check_liars" ["hands", "liars"] (spCheckLiars K C_NoHand) f7 _ := ⟨ok_check_liars F7 T x_NoHand cx_check_hand, PySem.W.mg_of X G a7, k7, b7⟩
  have c_is_path : Cal l.prog w K mg base CX0 3 "is_path" ["hands", "rounds", "value"] (spPath K P2) f8 _ := ⟨ok_is_path F8 T hc_is_path TB_P2 F1 F5 (PySem.W.mg_of X G a1) (PySem.W.mg_of X G a5) b1 b5, PySem.W.mg_of X G a8, k8, b8⟩
  have c_is_saying : Cal l.prog w K mg base CX0 4 "is_saying" ["hands", "liars", "rounds", "value"] (spSaying K P2) f9 _ := ⟨ok_is_saying F9 T c_is_path c_is_hand, PySem.W.mg_of X G a9, k9, b9⟩
  have cx_check_lies : Cal l.prog w K mg base (L2.CX l.prog w) 5 "check_lies" ["hands", "liars", "rounds", "lies"] (spCheckLies K P1 P2 C_NoSaying C_NoSign) f10 _ := ⟨ok_check_lies F10 T x_NoSaying c_is_saying cx_check_sign, PySem.W.mg_of X G a10, k10, b10⟩
  have c_hearers : Cal l.prog w K mg base CX0 1 "hearers" ["hands", "path"] (spHear) f11 _ := ⟨ok_hearers F11 T, PySem.W.mg_of X G a11, k11, b11⟩
  have cx_paths : Cal l.prog w K mg base (L2.CX l.prog w) 3 "paths" ["hands", "most"] (spPPathsX K C_NoTable) f12 _ := ⟨ok_paths F12 T TP cx_check_table, PySem.W.mg_of X G a12, k12, b12⟩
  have c_vote : Cal l.prog w K mg base CX0 1 "vote" ["signs"] (spVote K) f13 _ := ⟨ok_vote F13 T, PySem.W.mg_of X G a13, k13, b13⟩
  have c_settled : Cal l.prog w K mg base CX0 5 "settled" ["hands", "most", "told", "hand", "path"] (spSettled l.prog w 3) f14 _ := ⟨ok_settled F14 T c_hearers c_vote (PySem.W.mg_of X G a14) k14 b14 3, PySem.W.mg_of X G a14, k14, b14⟩
  have fx_Table : FnOk l.prog w K mg base (L2.CX l.prog w) 5 f15 _ ["self", "hands", "most", "sign", "liars"] (spInit K l.prog w C_Table P1 C_NoTable C_NoSign C_NoHand) := ok_init F15 T TC cx_check_table cx_check_sign cx_check_liars
  have mk_Table : Mk K C_Table f15 := ⟨cm_Table, a15, i15, ck_Table⟩
  have g_Table : mg "Table" = some (.ref C_Table) := PySem.W.mg_of X G cg_Table
  have bd_Table := b15
  have m_is_over : MCal l.prog w K mg base CX0 1 C_Table "_is_over" ["self"] (spOver l.prog w C_Table) f16 _ := ⟨ok_is_over F16 TC, ⟨a16, i16, k16⟩, b16⟩
  have m_honest_word : MCal l.prog w K mg base CX0 1 C_Table "_honest_word" ["self", "path"] (spWord l.prog w C_Table) f17 _ := ⟨ok_honest_word F17 T TC, ⟨a17, i17, k17⟩, b17⟩
  have m_say_along : MCal l.prog w K mg base CX0 2 C_Table "_say_along" ["self", "path", "lies"] (spSay l.prog w C_Table) f18 _ := ⟨ok_say_along F18 T TC c_hearers m_honest_word, ⟨a18, i18, k18⟩, b18⟩
  have m_play : MCal l.prog w K mg base (L2.CX l.prog w) 6 C_Table "play" ["self", "lies"] (spPlayT K l.prog w C_Table P1 P2 C_Over C_NoSaying C_NoSign) f19 _ := ⟨ok_play F19 T TC x_Over m_is_over m_say_along cx_check_lies cx_paths, ⟨a19, i19, k19⟩, b19⟩
  have m_told : MCal l.prog w K mg base (L2.CX l.prog w) 4 C_Table "told" ["self", "hand"] (spTold K l.prog w C_Table C_NoHand) f20 _ := ⟨ok_told F20 T TC cx_check_hand, ⟨a20, i20, k20⟩, b20⟩
  have m_says : MCal l.prog w K mg base (L2.CX l.prog w) 6 C_Table "says" ["self", "hand"] (spSays K l.prog w C_Table C_NoHand C_NotOver) f21 _ := ⟨ok_says F21 T TC x_NotOver cx_check_hand m_is_over c_settled, ⟨a21, i21, k21⟩, b21⟩
  have c_law_cell_at : Cal l.prog w K mg base CX0 1 "_law_cell_at" ["_law_script", "_law_k"] (spCell K) f22 _ := ⟨ok_law_cell_at F22 T, PySem.W.mg_of X G a22, k22, b22⟩
  have c_law_signs : Cal l.prog w K mg base CX0 1 "_law_signs" ["_law_cell"] (spSigns) f23 _ := ⟨ok_law_signs F23 T, PySem.W.mg_of X G a23, k23, b23⟩
  have c_law_table : Cal l.prog w K mg base CX0 1 "_law_table" ["_law_cell"] (spTable) f24 _ := ⟨ok_law_table F24 T, PySem.W.mg_of X G a24, k24, b24⟩
  have c_law_paths : Cal l.prog w K mg base CX0 1 "_law_paths" ["_law_hands_here", "_law_size"] (spPaths) f25 _ := ⟨ok_law_paths F25 T, PySem.W.mg_of X G a25, k25, b25⟩
  have c_law_liars : Cal l.prog w K mg base CX0 1 "_law_liars" ["_law_cell", "_law_hands_here", "_law_many"] (spLiars) f26 _ := ⟨ok_law_liars F26 T, PySem.W.mg_of X G a26, k26, b26⟩
  have c_law_mixed : Cal l.prog w K mg base CX0 1 "_law_mixed" ["_law_script", "_law_k"] (spMixed K) f27 _ := ⟨ok_law_mixed F27 T, PySem.W.mg_of X G a27, k27, b27⟩
  have c_law_lie : Cal l.prog w K mg base CX0 2 "_law_lie" ["_law_script", "_law_signs_here", "_law_path", "_law_hearer", "_law_k"] (spLie K) f28 _ := ⟨ok_law_lie F28 T c_law_cell_at c_law_mixed, PySem.W.mg_of X G a28, k28, b28⟩
  have c_law_lies : Cal l.prog w K mg base CX0 3 "_law_lies" ["_law_script", "_law_hands_here", "_law_most", "_law_signs_here", "_law_liars_here"] (spLies K l.prog w) f29 _ := ⟨ok_law_lies F29 T c_law_paths c_law_mixed c_law_lie, PySem.W.mg_of X G a29, k29, b29⟩
  have c_law_play : Cal l.prog w K mg base CX0 2 "_law_play" ["_law_hands_here", "_law_most", "_law_sign", "_law_lies_here"] (spPlay l.prog w) f30 _ := ⟨ok_law_play F30 T c_law_paths, PySem.W.mg_of X G a30, k30, b30⟩
  have c_law_of : Cal l.prog w K mg base CX0 1 "_law_of" ["_law_lies_here", "_law_size"] (spOf l.prog w) f31 _ := ⟨ok_law_of F31 T, PySem.W.mg_of X G a31, k31, b31⟩
  have c_law_same : Cal l.prog w K mg base CX0 1 "_law_same" ["_law_found", "_law_due"] (spSame) f32 _ := ⟨ok_law_same F32 T, PySem.W.mg_of X G a32, k32, b32⟩
  have c_law_told : Cal l.prog w K mg base CX0 2 "_law_told" ["_law_found", "_law_due"] (spLTold l.prog w) f33 _ := ⟨ok_law_told F33 T c_law_same, PySem.W.mg_of X G a33, k33, b33⟩
  have cw_law_word : CalW l.prog w K mg base 1 "_law_word" ["_law_e"] (withZ (spWordE [C_NoTable, C_NoSign, C_NoHand, C_NoSaying, C_Over, C_NotOver])) f34 _ := ⟨ok_law_word F34 T bv x_NoTable x_NoSign x_NoHand x_NoSaying x_Over x_NotOver S6, PySem.W.mg_of X G a34, k34, b34⟩
  have c_law_asked : Cal l.prog w K mg base CX0 7 "_law_asked" ["_law_way", "_law_table_here", "_law_thing"] (spAsked K l.prog w C_Table P1 P2) f35 _ := ⟨ok_law_asked F35 T TC mk_Table fx_Table g_Table bd_Table m_play m_told m_says cw_law_word x_TableError em6, PySem.W.mg_of X G a35, k35, b35⟩
  have c_law_heard : Cal l.prog w K mg base CX0 1 "_law_heard" ["_law_path", "_law_hands_here", "_law_cell"] (spHeard l.prog w) f36 _ := ⟨ok_law_heard F36 T, PySem.W.mg_of X G a36, k36, b36⟩
  have c_law_wrong_pair : Cal l.prog w K mg base CX0 2 "_law_wrong_pair" ["_law_cell", "_law_hands_here", "_law_size", "_law_liars_here"] (spWrong K) f37 _ := ⟨ok_law_wrong_pair F37 T c_law_paths c_law_heard, PySem.W.mg_of X G a37, k37, b37⟩
  have c_law_spoilt : Cal l.prog w K mg base CX0 1 "_law_spoilt" ["_law_lies_here", "_law_cell", "_law_wrong"] (spSpoilt K l.prog w) f38 _ := ⟨ok_law_spoilt F38 T, PySem.W.mg_of X G a38, k38, b38⟩
  have c_law_made : Cal l.prog w K mg base CX0 8 "_law_made" ["_law_cell", "_law_hands_here", "_law_most", "_law_sign"] (spMade K P1) f39 _ := ⟨ok_law_made F39 T c_law_asked, PySem.W.mg_of X G a39, k39, b39⟩
  have c_law_hands : Cal l.prog w K mg base CX0 8 "_law_hands" ["_law_table_here", "_law_hands_here", "_law_cell", "_law_is_over"] (spHandsL K l.prog w C_Table) f40 _ := ⟨ok_law_hands F40 T c_law_asked, PySem.W.mg_of X G a40, k40, b40⟩
  exact ok_law F41 T TC mk_Table fx_Table g_Table bd_Table m_told c_law_cell_at c_law_table c_law_signs c_law_liars c_law_lies c_law_of c_law_play c_law_told c_law_asked c_law_wrong_pair c_law_spoilt c_law_made c_law_hands
theorem walk {l : PySem.W.OpenLaw} {q : Program} {loose : List Str} {XP : (Str → Option Value) → Heap → Prop} {YP : World → Heap → Prop} {d : DefRec} {K : Params → PySem.W.Frag} (hn : l.most = some 63) (hdf : d.params.defaults = [])
    (hY : ∀ (w : World) (h : Heap), YP w h → (K w.params).In h) (hq_P1 : ((recsOf q).any fun e => e.name == ("is_sign" : Str)) = true) (hq_P2 : ((recsOf q).any fun e => e.name == ("is_path" : Str)) = true)
    (F : ∀ (w : World) (mg : Str → Option Value) (fa : Addr) (h : Heap), (K w.params).In h → h.Ns mainGlobals mg → mg d.name = some (.ref fa) → (∀ y ∈ (["is_sign", "is_path"] : List Str), TabFor (K w.params) h y) → LamX.LawAtS l w (K w.params) CX0 9 63 "_law_script" mg fa h) :
    PySem.W.WalkO q loose XP YP l.row.toRowW d [] (fun f vs => PySem.call f vs) :=
  walk_ofD (n := 63) (k := 9) (x := "_law_script") (CX := fun _ => CX0) (xs := ["is_sign", "is_path"]) hn (by decide) hdf ⟨rfl, by decide, by decide⟩ hY (fun y hy => by
    simp only [List.mem_cons, List.not_mem_nil, or_false] at hy
    rcases hy with rfl | rfl
    · exact hq_P1
    · exact hq_P2
    ) F fun _ _ _ _ _ z => z
end Lt
open PySem PySem.W PyProof.Rows
set_option maxRecDepth 100000 in
set_option maxHeartbeats 0 in
theorem PySem.Challenge.cw_lietable_k05_refused_holds : PySem.Challenge.rw_lietable_k05_refused.Holds := by
  w_on; o_law; k_head; (case hw => w_witness2)
  k_fill
  refine Lt.walk (l := PySem.Challenge.rw_lietable_k05_refused) rfl rfl (fun w h Y => PySem.W.kIn_of Y) ?hq_P1 ?hq_P2 ?F
  (case hq_P1 => decide +kernel)
  (case hq_P2 => decide +kernel)
  case F =>
    intro w mg fa h KX G hmg hTabs
    refine' Lt.all_mk KX G hmg ?cg_Table ?cm_Table ?ck_Table ?pg_Table ?hd_Table ?po_Table ?sa_Table ?na0_Table ?na1_Table ?na2_Table ?na3_Table ?na4_Table ?na5_Table ?a1 ?l1 ?c1 ?k1 ?a2 ?l2 ?c2 ?k2 ?a3 ?l3 ?c3 ?k3 ?a4 ?l4 ?c4 ?k4 ?a5 ?l5 ?c5 ?k5 ?a6 ?l6 ?c6 ?k6 ?a7 ?l7 ?c7 ?k7 ?a8 ?l8 ?c8 ?k8 ?a9 ?l9 ?c9 ?k9 ?a10 ?l10 ?c10 ?k10 ?a11 ?l11 ?c11 ?k11 ?a12 ?l12 ?c12 ?k12 ?a13 ?l13 ?c13 ?k13 ?a14 ?l14 ?c14 ?k14 ?a15 ?i15 ?l15 ?c15 ?k15 ?a16 ?i16 ?l16 ?c16 ?k16 ?a17 ?i17 ?l17 ?c17 ?k17 ?a18 ?i18 ?l18 ?c18 ?k18 ?a19 ?i19 ?l19 ?c19 ?k19 ?a20 ?i20 ?l20 ?c20 ?k20 ?a21 ?i21 ?l21 ?c21 ?k21 ?a22 ?l22 ?c22 ?k22 ?a23 ?l23 ?c23 ?k23 ?a24 ?l24 ?c24 ?k24 ?a25 ?l25 ?c25 ?k25 ?a26 ?l26 ?c26 ?k26 ?a27 ?l27 ?c27 ?k27 ?a28 ?l28 ?c28 ?k28 ?a29 ?l29 ?c29 ?k29 ?a30 ?l30 ?c30 ?k30 ?a31 ?l31 ?c31 ?k31 ?a32 ?l32 ?c32 ?k32 ?a33 ?l33 ?c33 ?k33 ?a34 ?l34 ?c34 ?k34 ?a35 ?l35 ?c35 ?k35 ?a36 ?l36 ?c36 ?k36 ?a37 ?l37 ?c37 ?k37 ?a38 ?l38 ?c38 ?k38 ?a39 ?l39 ?c39 ?k39 ?a40 ?l40 ?c40 ?k40 ?a41 ?l41 ?c41 ?k41 ?z_range ?z_str ?z_int ?z_bool ?z_list ?z_tuple ?z_dict ?z_set ?z_enumerate ?z_len ?z_isinstance ?z_min ?z_max ?z_sum ?z_all ?z_ValueError ?z_permutations ?xg_TableError ?xq_TableError ?xk_TableError ?xb_TableError ?xt_TableError ?xg_NoTable ?xq_NoTable ?xk_NoTable ?xb_NoTable ?xt_NoTable ?xg_NoSign ?xq_NoSign ?xk_NoSign ?xb_NoSign ?xt_NoSign ?xg_NoHand ?xq_NoHand ?xk_NoHand ?xb_NoHand ?xt_NoHand ?xg_NoSaying ?xq_NoSaying ?xk_NoSaying ?xb_NoSaying ?xt_NoSaying ?xg_Over ?xq_Over ?xk_Over ?xb_Over ?xt_Over ?xg_NotOver ?xq_NotOver ?xk_NotOver ?xb_NotOver ?xt_NotOver ?tk_P1 ?tv_P1 ?tn_P1 ?th_P1 ?tk_P2 ?tv_P2 ?tn_P2 ?th_P2 ?gl_LETTERS ?e1_NoTable ?e2_NoTable ?e3_NoTable ?e4_NoTable ?e7_NoTable ?e8_NoTable ?e10_NoTable ?e1_NoSign ?e2_NoSign ?e3_NoSign ?e4_NoSign ?e7_NoSign ?e8_NoSign ?e10_NoSign ?e1_NoHand ?e2_NoHand ?e3_NoHand ?e4_NoHand ?e7_NoHand ?e8_NoHand ?e10_NoHand ?e1_NoSaying ?e2_NoSaying ?e3_NoSaying ?e4_NoSaying ?e7_NoSaying ?e8_NoSaying ?e10_NoSaying ?e1_Over ?e2_Over ?e3_Over ?e4_Over ?e7_Over ?e8_Over ?e10_Over ?e1_NotOver ?e2_NotOver ?e3_NotOver ?e4_NotOver ?e7_NotOver ?e8_NotOver ?e10_NotOver ?e5 ?e6 ?e9 ?s_NoTable_NoSign ?n_NoTable_NoSign ?s_NoTable_NoHand ?n_NoTable_NoHand ?s_NoTable_NoSaying ?n_NoTable_NoSaying ?s_NoTable_Over ?n_NoTable_Over ?s_NoTable_NotOver ?n_NoTable_NotOver ?s_NoSign_NoTable ?n_NoSign_NoTable ?s_NoSign_NoHand ?n_NoSign_NoHand ?s_NoSign_NoSaying ?n_NoSign_NoSaying ?s_NoSign_Over ?n_NoSign_Over ?s_NoSign_NotOver ?n_NoSign_NotOver ?s_NoHand_NoTable ?n_NoHand_NoTable ?s_NoHand_NoSign ?n_NoHand_NoSign ?s_NoHand_NoSaying ?n_NoHand_NoSaying ?s_NoHand_Over ?n_NoHand_Over ?s_NoHand_NotOver ?n_NoHand_NotOver ?s_NoSaying_NoTable ?n_NoSaying_NoTable ?s_NoSaying_NoSign ?n_NoSaying_NoSign ?s_NoSaying_NoHand ?n_NoSaying_NoHand ?s_NoSaying_Over ?n_NoSaying_Over ?s_NoSaying_NotOver ?n_NoSaying_NotOver ?s_Over_NoTable ?n_Over_NoTable ?s_Over_NoSign ?n_Over_NoSign ?s_Over_NoHand ?n_Over_NoHand ?s_Over_NoSaying ?n_Over_NoSaying ?s_Over_NotOver ?n_Over_NotOver ?s_NotOver_NoTable ?n_NotOver_NoTable ?s_NotOver_NoSign ?n_NotOver_NoSign ?s_NotOver_NoHand ?n_NotOver_NoHand ?s_NotOver_NoSaying ?n_NotOver_NoSaying ?s_NotOver_Over ?n_NotOver_Over ?n_nd
    (case cg_Table => k_is)
    (case cm_Table => k_is)
    (case ck_Table => k_is)
    (case pg_Table => k_is)
    (case hd_Table => k_is)
    (case po_Table => k_is)
    (case sa_Table => k_is)
    (case na0_Table => k_is)
    (case na1_Table => k_is)
    (case na2_Table => k_is)
    (case na3_Table => k_is)
    (case na4_Table => k_is)
    (case na5_Table => k_is)
    (case a1 => k_is)
    (case l1 => k_is)
    (case c1 => k_is)
    (case k1 => k_is)
    (case a2 => k_is)
    (case l2 => k_is)
    (case c2 => k_is)
    (case k2 => k_is)
    (case a3 => k_is)
    (case l3 => k_is)
    (case c3 => k_is)
    (case k3 => k_is)
    (case a4 => k_is)
    (case l4 => k_is)
    (case c4 => k_is)
    (case k4 => k_is)
    (case a5 => k_is)
    (case l5 => k_is)
    (case c5 => k_is)
    (case k5 => k_is)
    (case a6 => k_is)
    (case l6 => k_is)
    (case c6 => k_is)
    (case k6 => k_is)
    (case a7 => k_is)
    (case l7 => k_is)
    (case c7 => k_is)
    (case k7 => k_is)
    (case a8 => k_is)
    (case l8 => k_is)
    (case c8 => k_is)
    (case k8 => k_is)
    (case a9 => k_is)
    (case l9 => k_is)
    (case c9 => k_is)
    (case k9 => k_is)
    (case a10 => k_is)
    (case l10 => k_is)
    (case c10 => k_is)
    (case k10 => k_is)
    (case a11 => k_is)
    (case l11 => k_is)
    (case c11 => k_is)
    (case k11 => k_is)
    (case a12 => k_is)
    (case l12 => k_is)
    (case c12 => k_is)
    (case k12 => k_is)
    (case a13 => k_is)
    (case l13 => k_is)
    (case c13 => k_is)
    (case k13 => k_is)
    (case a14 => k_is)
    (case l14 => k_is)
    (case c14 => k_is)
    (case k14 => k_is)
    (case a15 => k_is)
    (case i15 => k_is)
    (case l15 => k_is)
    (case c15 => k_is)
    (case k15 => k_is)
    (case a16 => k_is)
    (case i16 => k_is)
    (case l16 => k_is)
    (case c16 => k_is)
    (case k16 => k_is)
    (case a17 => k_is)
    (case i17 => k_is)
    (case l17 => k_is)
    (case c17 => k_is)
    (case k17 => k_is)
    (case a18 => k_is)
    (case i18 => k_is)
    (case l18 => k_is)
    (case c18 => k_is)
    (case k18 => k_is)
    (case a19 => k_is)
    (case i19 => k_is)
    (case l19 => k_is)
    (case c19 => k_is)
    (case k19 => k_is)
    (case a20 => k_is)
    (case i20 => k_is)
    (case l20 => k_is)
    (case c20 => k_is)
    (case k20 => k_is)
    (case a21 => k_is)
    (case i21 => k_is)
    (case l21 => k_is)
    (case c21 => k_is)
    (case k21 => k_is)
    (case a22 => k_is)
    (case l22 => k_is)
    (case c22 => k_is)
    (case k22 => k_is)
    (case a23 => k_is)
    (case l23 => k_is)
    (case c23 => k_is)
    (case k23 => k_is)
    (case a24 => k_is)
    (case l24 => k_is)
    (case c24 => k_is)
    (case k24 => k_is)
    (case a25 => k_is)
    (case l25 => k_is)
    (case c25 => k_is)
    (case k25 => k_is)
    (case a26 => k_is)
    (case l26 => k_is)
    (case c26 => k_is)
    (case k26 => k_is)
    (case a27 => k_is)
    (case l27 => k_is)
    (case c27 => k_is)
    (case k27 => k_is)
    (case a28 => k_is)
    (case l28 => k_is)
    (case c28 => k_is)
    (case k28 => k_is)
    (case a29 => k_is)
    (case l29 => k_is)
    (case c29 => k_is)
    (case k29 => k_is)
    (case a30 => k_is)
    (case l30 => k_is)
    (case c30 => k_is)
    (case k30 => k_is)
    (case a31 => k_is)
    (case l31 => k_is)
    (case c31 => k_is)
    (case k31 => k_is)
    (case a32 => k_is)
    (case l32 => k_is)
    (case c32 => k_is)
    (case k32 => k_is)
    (case a33 => k_is)
    (case l33 => k_is)
    (case c33 => k_is)
    (case k33 => k_is)
    (case a34 => k_is)
    (case l34 => k_is)
    (case c34 => k_is)
    (case k34 => k_is)
    (case a35 => k_is)
    (case l35 => k_is)
    (case c35 => k_is)
    (case k35 => k_is)
    (case a36 => k_is)
    (case l36 => k_is)
    (case c36 => k_is)
    (case k36 => k_is)
    (case a37 => k_is)
    (case l37 => k_is)
    (case c37 => k_is)
    (case k37 => k_is)
    (case a38 => k_is)
    (case l38 => k_is)
    (case c38 => k_is)
    (case k38 => k_is)
    (case a39 => k_is)
    (case l39 => k_is)
    (case c39 => k_is)
    (case k39 => k_is)
    (case a40 => k_is)
    (case l40 => k_is)
    (case c40 => k_is)
    (case k40 => k_is)
    (case a41 => k_is)
    (case l41 => k_is)
    (case c41 => k_is)
    (case k41 => k_is)
    (case z_range => k_is)
    (case z_str => k_is)
    (case z_int => k_is)
    (case z_bool => k_is)
    (case z_list => k_is)
    (case z_tuple => k_is)
    (case z_dict => k_is)
    (case z_set => k_is)
    (case z_enumerate => k_is)
    (case z_len => k_is)
    (case z_isinstance => k_is)
    (case z_min => k_is)
    (case z_max => k_is)
    (case z_sum => k_is)
    (case z_all => k_is)
    (case z_ValueError => k_is)
    (case z_permutations => k_is)
    (case xg_TableError => k_is)
    (case xq_TableError => k_exc)
    (case xk_TableError => k_is)
    (case xb_TableError => k_is)
    (case xt_TableError => k_is)
    (case xg_NoTable => k_is)
    (case xq_NoTable => k_exc)
    (case xk_NoTable => k_is)
    (case xb_NoTable => k_is)
    (case xt_NoTable => k_is)
    (case xg_NoSign => k_is)
    (case xq_NoSign => k_exc)
    (case xk_NoSign => k_is)
    (case xb_NoSign => k_is)
    (case xt_NoSign => k_is)
    (case xg_NoHand => k_is)
    (case xq_NoHand => k_exc)
    (case xk_NoHand => k_is)
    (case xb_NoHand => k_is)
    (case xt_NoHand => k_is)
    (case xg_NoSaying => k_is)
    (case xq_NoSaying => k_exc)
    (case xk_NoSaying => k_is)
    (case xb_NoSaying => k_is)
    (case xt_NoSaying => k_is)
    (case xg_Over => k_is)
    (case xq_Over => k_exc)
    (case xk_Over => k_is)
    (case xb_Over => k_is)
    (case xt_Over => k_is)
    (case xg_NotOver => k_is)
    (case xq_NotOver => k_exc)
    (case xk_NotOver => k_is)
    (case xb_NotOver => k_is)
    (case xt_NotOver => k_is)
    (case tk_P1 => k_is)
    (case tv_P1 => rfl)
    (case tn_P1 => first | k_is | rfl | decide +kernel)
    (case th_P1 => exact hTabs _ (by simp))
    (case tk_P2 => k_is)
    (case tv_P2 => rfl)
    (case tn_P2 => first | k_is | rfl | decide +kernel)
    (case th_P2 => exact hTabs _ (by simp))
    (case gl_LETTERS => k_is)
    (case e1_NoTable => k_is)
    (case e2_NoTable => k_is)
    (case e3_NoTable => k_is)
    (case e4_NoTable => k_is)
    (case e7_NoTable => k_is)
    (case e8_NoTable => k_is)
    (case e10_NoTable => k_is)
    (case e1_NoSign => k_is)
    (case e2_NoSign => k_is)
    (case e3_NoSign => k_is)
    (case e4_NoSign => k_is)
    (case e7_NoSign => k_is)
    (case e8_NoSign => k_is)
    (case e10_NoSign => k_is)
    (case e1_NoHand => k_is)
    (case e2_NoHand => k_is)
    (case e3_NoHand => k_is)
    (case e4_NoHand => k_is)
    (case e7_NoHand => k_is)
    (case e8_NoHand => k_is)
    (case e10_NoHand => k_is)
    (case e1_NoSaying => k_is)
    (case e2_NoSaying => k_is)
    (case e3_NoSaying => k_is)
    (case e4_NoSaying => k_is)
    (case e7_NoSaying => k_is)
    (case e8_NoSaying => k_is)
    (case e10_NoSaying => k_is)
    (case e1_Over => k_is)
    (case e2_Over => k_is)
    (case e3_Over => k_is)
    (case e4_Over => k_is)
    (case e7_Over => k_is)
    (case e8_Over => k_is)
    (case e10_Over => k_is)
    (case e1_NotOver => k_is)
    (case e2_NotOver => k_is)
    (case e3_NotOver => k_is)
    (case e4_NotOver => k_is)
    (case e7_NotOver => k_is)
    (case e8_NotOver => k_is)
    (case e10_NotOver => k_is)
    (case e5 => k_is)
    (case e6 => k_is)
    (case e9 => k_is)
    (case s_NoTable_NoSign => k_is)
    (case n_NoTable_NoSign => decide)
    (case s_NoTable_NoHand => k_is)
    (case n_NoTable_NoHand => decide)
    (case s_NoTable_NoSaying => k_is)
    (case n_NoTable_NoSaying => decide)
    (case s_NoTable_Over => k_is)
    (case n_NoTable_Over => decide)
    (case s_NoTable_NotOver => k_is)
    (case n_NoTable_NotOver => decide)
    (case s_NoSign_NoTable => k_is)
    (case n_NoSign_NoTable => decide)
    (case s_NoSign_NoHand => k_is)
    (case n_NoSign_NoHand => decide)
    (case s_NoSign_NoSaying => k_is)
    (case n_NoSign_NoSaying => decide)
    (case s_NoSign_Over => k_is)
    (case n_NoSign_Over => decide)
    (case s_NoSign_NotOver => k_is)
    (case n_NoSign_NotOver => decide)
    (case s_NoHand_NoTable => k_is)
    (case n_NoHand_NoTable => decide)
    (case s_NoHand_NoSign => k_is)
    (case n_NoHand_NoSign => decide)
    (case s_NoHand_NoSaying => k_is)
    (case n_NoHand_NoSaying => decide)
    (case s_NoHand_Over => k_is)
    (case n_NoHand_Over => decide)
    (case s_NoHand_NotOver => k_is)
    (case n_NoHand_NotOver => decide)
    (case s_NoSaying_NoTable => k_is)
    (case n_NoSaying_NoTable => decide)
    (case s_NoSaying_NoSign => k_is)
    (case n_NoSaying_NoSign => decide)
    (case s_NoSaying_NoHand => k_is)
    (case n_NoSaying_NoHand => decide)
    (case s_NoSaying_Over => k_is)
    (case n_NoSaying_Over => decide)
    (case s_NoSaying_NotOver => k_is)
    (case n_NoSaying_NotOver => decide)
    (case s_Over_NoTable => k_is)
    (case n_Over_NoTable => decide)
    (case s_Over_NoSign => k_is)
    (case n_Over_NoSign => decide)
    (case s_Over_NoHand => k_is)
    (case n_Over_NoHand => decide)
    (case s_Over_NoSaying => k_is)
    (case n_Over_NoSaying => decide)
    (case s_Over_NotOver => k_is)
    (case n_Over_NotOver => decide)
    (case s_NotOver_NoTable => k_is)
    (case n_NotOver_NoTable => decide)
    (case s_NotOver_NoSign => k_is)
    (case n_NotOver_NoSign => decide)
    (case s_NotOver_NoHand => k_is)
    (case n_NotOver_NoHand => decide)
    (case s_NotOver_NoSaying => k_is)
    (case n_NotOver_NoSaying => decide)
    (case s_NotOver_Over => k_is)
    (case n_NotOver_Over => decide)
    (case n_nd => decide)
#print axioms PySem.Challenge.cw_lietable_k05_refused_holds
